import Derived.Test.YtjlaedokfbcbpaaGreatDoorKScanW
set_option maxRecDepth 100000
set_option maxHeartbeats 4000000
namespace Go.Proofs.YtjlaedokfbcbpaaGreatDoor
open Proofs.Tryz
open Go.RowKit Go.Shelf
attribute [local go_sem] Oper.semAt_some
def Uv (x:Ab × Nat):Array Value := #[.agg #[.int .i64 x.1.kind,.string (Aj x.1.text),.int .i64 x.1.type,.int .i64 x.1.n,.int .i64 (x.2:Int)],.int .i64 x.1.code]
theorem Oi {w w':World} (h:Below w.heap.size w w'):w.grownBy w' none:=⟨h.os,h.tape,h.output,h.size,fun k hk _=>h.block k hk⟩
theorem Zh {w w':World} {b:Nat} (h:M8 w b) (hk:KeepsWalks w w'):M8 w' b:=by
 obtain⟨c,a,d,rest⟩:=h;exact⟨c,a,hk.same b _ d rfl,rest⟩
theorem Em.belowN {w w':World} {n:Nat} (h:Em w) (hn:1 < n/\7 < n) (hb:Below n w w'):Em w':=by
 have a:=h.big;refine⟨fun t h1 h2 => ?_, ?_,by have:=hb.size;omega⟩
 ·rw[hb.cell (p:=(OK 1 t)) (show 1 < n by omega)];exact h.tab t h1 h2
 ·rw[hb.cell (p:=(OK 7 0)) (show 7 < n by omega)];exact h.err
theorem Hb (s:ByteArray) (i:Nat):(s.extract i s.size).data.toList=s.data.toList.drop i:=Ml s i
theorem Mm (s:ByteArray) (i:Nat):(s.extract i s.size).size=s.size - i:=by
 have:=congrArg List.length (Ml s i);rw[List.length_drop]at this;exact this
theorem Qg9 {w2:World} {B:Nat} {u0 u1 u2 u3 u4 u5 u6:Value} (d0:w2.cell? (OK B 0)=some u0) (d1:w2.cell? (OK B 1)=some u1) (d2:w2.cell? (OK B 2)=some u2) (d3:w2.cell? (OK B 3)=some u3) (d4:w2.cell? (OK B 4)=some u4) (d5:w2.cell? (OK B 5)=some u5) (d6:w2.cell? (OK B 6)=some u6) (c0 c1 c2 c3 c4 c5 c6 c7:Value) :
    ((((((((w2.setCell (OK B 0) c0).setCell (OK B 1) c1).setCell (OK B 2) c2).setCell (OK B 3) c3).setCell (OK B 4) c4).setCell (OK B 5) c5).setCell (OK B 6) c6).setCell (OK B 4) c7).cell? (OK B 0)=some c0/\((((((((w2.setCell (OK B 0) c0).setCell (OK B 1) c1).setCell (OK B 2) c2).setCell (OK B 3) c3).setCell (OK B 4) c4).setCell (OK B 5) c5).setCell (OK B 6) c6).setCell (OK B 4) c7).cell? (OK B 1)=some c1/\((((((((w2.setCell (OK B 0) c0).setCell (OK B 1) c1).setCell (OK B 2) c2).setCell (OK B 3) c3).setCell (OK B 4) c4).setCell (OK B 5) c5).setCell (OK B 6) c6).setCell (OK B 4) c7).cell? (OK B 2)=some c2/\((((((((w2.setCell (OK B 0) c0).setCell (OK B 1) c1).setCell (OK B 2) c2).setCell (OK B 3) c3).setCell (OK B 4) c4).setCell (OK B 5) c5).setCell (OK B 6) c6).setCell (OK B 4) c7).cell? (OK B 3)=some c3/\((((((((w2.setCell (OK B 0) c0).setCell (OK B 1) c1).setCell (OK B 2) c2).setCell (OK B 3) c3).setCell (OK B 4) c4).setCell (OK B 5) c5).setCell (OK B 6) c6).setCell (OK B 4) c7).cell? (OK B 4)=some c7/\((((((((w2.setCell (OK B 0) c0).setCell (OK B 1) c1).setCell (OK B 2) c2).setCell (OK B 3) c3).setCell (OK B 4) c4).setCell (OK B 5) c5).setCell (OK B 6) c6).setCell (OK B 4) c7).cell? (OK B 5)=some c5/\((((((((w2.setCell (OK B 0) c0).setCell (OK B 1) c1).setCell (OK B 2) c2).setCell (OK B 3) c3).setCell (OK B 4) c4).setCell (OK B 5) c5).setCell (OK B 6) c6).setCell (OK B 4) c7).cell? (OK B 6)=some c6 :=
  ⟨(Eq.trans (World.cell?_setCell_other _ _ _ _ OF) (Eq.trans (World.cell?_setCell_other _ _ _ _ OF) (Eq.trans (World.cell?_setCell_other _ _ _ _ OF) (Eq.trans (World.cell?_setCell_other _ _ _ _ OF) (Eq.trans (World.cell?_setCell_other _ _ _ _ OF) (Eq.trans (World.cell?_setCell_other _ _ _ _ OF) (Eq.trans (World.cell?_setCell_other _ _ _ _ OF) (World.cell?_setCell_same _ _ _ d0)))))))),
   (Eq.trans (World.cell?_setCell_other _ _ _ _ OF) (Eq.trans (World.cell?_setCell_other _ _ _ _ OF) (Eq.trans (World.cell?_setCell_other _ _ _ _ OF) (Eq.trans (World.cell?_setCell_other _ _ _ _ OF) (Eq.trans (World.cell?_setCell_other _ _ _ _ OF) (Eq.trans (World.cell?_setCell_other _ _ _ _ OF) (World.cell?_setCell_same _ _ _ (Eq.trans (World.cell?_setCell_other _ _ _ _ OF) d1)))))))),
   (Eq.trans (World.cell?_setCell_other _ _ _ _ OF) (Eq.trans (World.cell?_setCell_other _ _ _ _ OF) (Eq.trans (World.cell?_setCell_other _ _ _ _ OF) (Eq.trans (World.cell?_setCell_other _ _ _ _ OF) (Eq.trans (World.cell?_setCell_other _ _ _ _ OF) (World.cell?_setCell_same _ _ _ (Eq.trans (World.cell?_setCell_other _ _ _ _ OF) (Eq.trans (World.cell?_setCell_other _ _ _ _ OF) d2)))))))),
   (Eq.trans (World.cell?_setCell_other _ _ _ _ OF) (Eq.trans (World.cell?_setCell_other _ _ _ _ OF) (Eq.trans (World.cell?_setCell_other _ _ _ _ OF) (Eq.trans (World.cell?_setCell_other _ _ _ _ OF) (World.cell?_setCell_same _ _ _ (Eq.trans (World.cell?_setCell_other _ _ _ _ OF) (Eq.trans (World.cell?_setCell_other _ _ _ _ OF) (Eq.trans (World.cell?_setCell_other _ _ _ _ OF) d3)))))))),
   World.cell?_setCell_same _ _ _ (Eq.trans (World.cell?_setCell_other _ _ _ _ OF) (Eq.trans (World.cell?_setCell_other _ _ _ _ OF) (World.cell?_setCell_same _ _ _ (Eq.trans (World.cell?_setCell_other _ _ _ _ OF) (Eq.trans (World.cell?_setCell_other _ _ _ _ OF) (Eq.trans (World.cell?_setCell_other _ _ _ _ OF) (Eq.trans (World.cell?_setCell_other _ _ _ _ OF) d4))))))),
   (Eq.trans (World.cell?_setCell_other _ _ _ _ OF) (Eq.trans (World.cell?_setCell_other _ _ _ _ OF) (World.cell?_setCell_same _ _ _ (Eq.trans (World.cell?_setCell_other _ _ _ _ OF) (Eq.trans (World.cell?_setCell_other _ _ _ _ OF) (Eq.trans (World.cell?_setCell_other _ _ _ _ OF) (Eq.trans (World.cell?_setCell_other _ _ _ _ OF) (Eq.trans (World.cell?_setCell_other _ _ _ _ OF) d5)))))))),
   (Eq.trans (World.cell?_setCell_other _ _ _ _ OF) (World.cell?_setCell_same _ _ _ (Eq.trans (World.cell?_setCell_other _ _ _ _ OF) (Eq.trans (World.cell?_setCell_other _ _ _ _ OF) (Eq.trans (World.cell?_setCell_other _ _ _ _ OF) (Eq.trans (World.cell?_setCell_other _ _ _ _ OF) (Eq.trans (World.cell?_setCell_other _ _ _ _ OF) (Eq.trans (World.cell?_setCell_other _ _ _ _ OF) d6))))))))⟩
def Xl (w:World) (B:Nat):Prop := ∃ (c:Array Value) (fz:Nat × Nat),w.heap[B]? = some (Obj.cells c 149 fz)
theorem Is {w:World} {B:Nat} (h:Xl w B) (a:Addr) (v:Value):Xl (w.setCell a v) B:=by
 obtain⟨c,b,d⟩:=h;by_cases e:B=a.block
 ·refine⟨if a.spot.isSome then c else c.setIfInBounds a.off v,b, ?_⟩;simp[World.setCell,Array.getElem?_modify,<- e,d]
 ·exact⟨c,b,by simp[World.setCell,Array.getElem?_modify,Ne.symm e,d]⟩
theorem Vd {n₀:Nat} {A C:World} {B:Nat} (h:Xl A B) (hk:Mh n₀ A C) (o:Nat):C.cell? (OK B o)=A.cell? (OK B o):=by
 obtain⟨c,a,b⟩:=h;have:=hk.pieces B c a b;simp[World.cell?,this]
theorem Qgt {w w2:World} {c:Array Value} (hb:Below (w.alloc (.cells c 149)).heap.size (w.alloc (.cells c 149)) w2):Xl w2 w.heap.size :=
 ⟨c,_,(hb.block w.heap.size OF).trans (World.alloc_heap_new w _)⟩
theorem Nq (s:ByteArray) (i f:Nat) (hlt:i < s.size) (n32:s[i]≠32) (n10:s[i]≠10) (n35:s[i]≠35) :
  ∃ rest,Ch (f+1) (s.data.toList.drop i) i=(Bb (s.data.toList.drop i),i)::rest/\(((Bb (s.data.toList.drop i)).code≠0/\rest=[])\/((Bb (s.data.toList.drop i)).code=0/\1<=(Bb (s.data.toList.drop i)).size/\i+(Bb (s.data.toList.drop i)).size<=s.size/\rest=Ch f (s.data.toList.drop (i+(Bb (s.data.toList.drop i)).size)) (i+(Bb (s.data.toList.drop i)).size))):=by
 have a:s.data.toList.drop i=s[i]::s.data.toList.drop (i+1):=Bx s i hlt;have c:¬ (s[i]=32\/s[i]=10):=fun h=>h.elim n32 n10
 by_cases h3:(Bb (s.data.toList.drop i)).code=0
 ·have b:=Vf s[i] (s.data.toList.drop (i+1)) (by rw[<- a];exact h3);rw[<- a]at b;have d:(s.data.toList.drop i).length=s.size - i:=by simp
  rw[d]at b;refine⟨_, ?_,.inr ⟨h3,b.1,by omega,rfl⟩⟩;have:=Qg1 f i s[i] (s.data.toList.drop (i+1)) c n35 (by rw[<- a];exact h3);rw[<- a]at this;rw[this,List.drop_drop]
 ·refine⟨[], ?_,.inl ⟨h3,rfl⟩⟩;have:=Qgz f i s[i] (s.data.toList.drop (i+1)) c n35 (by rw[<- a];exact h3);rw[<- a]at this;exact this
theorem Qa7 (s:ByteArray) (i:Nat) (hlt:i < s.size) (h:Bp (s[i].toNat:Int)=true):Bb (s.data.toList.drop i)=F1 (A5 (s.data.toList.drop i)):=by
 have a:=Bx s i hlt;simp[Bb,a,h]
theorem Qch (s:ByteArray) (i:Nat) (hlt:i < s.size) (h0:Bp (s[i].toNat:Int)=false) (h:B4 (s[i].toNat:Int)=true):Bb (s.data.toList.drop i)=E1 (A5 (s.data.toList.drop i)):=by
 have a:=Bx s i hlt;simp[Bb,a,h0,h]
theorem Qci (s:ByteArray) (i:Nat) (hlt:i < s.size) (h:s[i]=34):Bb (s.data.toList.drop i)=D1 (s.data.toList.drop i):=by
 have a:=Bx s i hlt;rw[a,h];rfl
theorem Qek (s:ByteArray) (i:Nat) (hlt:i < s.size) (h0:Bp (s[i].toNat:Int)=false) (h1:B4 (s[i].toNat:Int)=false) (h:s[i]≠34):Bb (s.data.toList.drop i)=Fl (s.data.toList.drop i):=by
 have a:=Bx s i hlt;simp[Bb,a,h0,h1,h]
theorem Qgo (s:ByteArray) (i:Nat) (hlt:i < s.size) (h:B4 (s[i].toNat:Int)=true):1<=Ar (A5 (s.data.toList.drop i)):=by
 have a:=Bx s i hlt;have c:B5 s[i]=true:=by simp[B5,Dc,h]
 have b:Cr s[i]=true:=by simp[Cr,h]
 simp[A5,a,Ar,c,b]
theorem DdScanZx112 {P:Prop} (h:P:=by
 clear k E
 gi_wp2
 have X:=j _ (OP wr (Obj.cells #[.int .i64 0,.string ⟨#[]⟩,.int .i64 0,.int .i64 0,.int .i64 0,.int .i64 0,.int .i64 0] 149))
 refine⟨⟨i+1,f,b,by omega,by omega,by go_num,z.out,X⟩, ?_⟩
 simp[intOf];omega
 ):P:=h
theorem DdScanZx196 {P:Prop} (h:P:=by
 rintro e w2 ⟨rfl,G⟩
 rw[R.out]
 have L:Below (wr.heap.size+1) (wr.alloc (Obj.cells #[.int .i64 0,.string ⟨#[]⟩,.int .i64 0,.int .i64 0,.int .i64 0,.int .i64 0,.int .i64 0] 149)) w2:=by simpa using G
 have M:=(Ht _ ON _ G (.int .i64 P.kind) (.string (Aj P.text)) (.int .i64 P.type) (.int .i64 P.n) (.int .i64 0) (.int .i64 (P.size:Int)) (.int .i64 P.code)).setCell (p:=(OK wr.heap.size 4)) ON (.int .i64 (i:Int))
 obtain⟨d0,d1,d2,d3,d4,d5,d6⟩:=Re L
 obtain⟨g0,g1,g2,g3,g4,g5,g6,an⟩:=Qm L
 obtain⟨y0,y1,y2,y3,y4,y5,y6⟩:=Qg9 d0 d1 d2 d3 d4 d5 d6 (.int .i64 P.kind) (.string (Aj P.text)) (.int .i64 P.type) (.int .i64 P.n) (.int .i64 0) (.int .i64 (P.size:Int)) (.int .i64 P.code) (.int .i64 (i:Int))
 obtain⟨fn,aj,assign,body,hy,hR⟩:=hY b (P,i) _ (j _ M).1 A
 dsimp only[Uv]at hy
 have HB:Hid (_/\_):=⟨G,M⟩
 clear G L M B D ag R I H
 gi_wp2
 refine hR.mono ?_
 have hp:=Is (Is (Is (Is (Is (Is (Is (Is (Qgt HB.out.1) (OK wr.heap.size 0) (.int .i64 P.kind)) (OK wr.heap.size 1) (.string (Aj P.text))) (OK wr.heap.size 2) (.int .i64 P.type)) (OK wr.heap.size 3) (.int .i64 P.n)) (OK wr.heap.size 4) (.int .i64 0)) (OK wr.heap.size 5) (.int .i64 (P.size:Int))) (OK wr.heap.size 6) (.int .i64 P.code)) (OK wr.heap.size 4) (.int .i64 (i:Int))
 obtain⟨jY,sY,wY,gY,zY⟩:=j _ HB.out.2
 clear hy hR d0 d1 d2 d3 d4 d5 d6 g0 g1 g2 g3 g4 g5 g6 j
 generalize ((((((((w2.setCell (OK wr.heap.size 0) (.int .i64 P.kind)).setCell (OK wr.heap.size 1) (.string (Aj P.text))).setCell (OK wr.heap.size 2) (.int .i64 P.type)).setCell (OK wr.heap.size 3) (.int .i64 P.n)).setCell (OK wr.heap.size 4) (.int .i64 0)).setCell (OK wr.heap.size 5) (.int .i64 (P.size:Int))).setCell (OK wr.heap.size 6) (.int .i64 P.code)).setCell (OK wr.heap.size 4) (.int .i64 (i:Int)))=WY at *
 rintro e W3 (⟨rfl,hJ3,hk3⟩|⟨rfl,hJx3⟩)
 ·have z6:=(Vd hp hk3 6).trans y6
  have z5:=(Vd hp hk3 5).trans y5
  clear y0 y1 y2 y3 y4 y5 y6
  rcases Q.out with⟨Y,V⟩|⟨Y,al,am,V⟩
  ·have ac:(P.code != 0)=true:=by simp[Y]
   have C:Hid (b++[(P,i)]=Ee s):=by rw[Hid,z.out,V]
   clear V Y Q z
   gi_wp2
   rw[Exit.noGoto_ret]
   refine bodyPost_ret (results_none rfl _ _ _) rfl ?_
   exact⟨⟨_,rfl⟩,.inl ⟨_,C.out,hJ3⟩⟩
  ·have ac:(P.code != 0)=false:=by simp[Y]
   have C:Hid (Ee s=(b++[(P,i)])++Ch f (s.data.toList.drop (i+P.size)) (i+P.size)):=by rw[Hid,z.out,V];simp
   clear V Q z
   gi_wp2
   go_roundw
   case rel=>exact⟨i+P.size,f,b++[(P,i)],by omega,by omega,by go_num,C.out,hJ3,(hk3.strs Bs _ _ sY).trans sY,Zh wY hk3.walks,gY.belowN hn hk3.below,by have:=hk3.below.size;omega⟩
   case measure=>simp[intOf];omega
 ·gi_wp2
  rw[Exit.noGoto_ret]
  refine bodyPost_ret (results_none rfl _ _ _) rfl ?_
  exact⟨⟨_,rfl⟩,.inr ⟨b++[(P,i)],⟨rest,by rw[z.out];simp⟩,hJx3⟩⟩
 ):P:=h
theorem tokens1_in (s:ByteArray) (hs:s.size<=12000) (l Bs n₀:Nat) (J Jx:List (Ab × Nat)->World->Prop) (W:World) (hn:1 < n₀/\7 < n₀) (hsrc:Boxed W Bs 9 (.string s)) (hG:Em W) (hJ:AbidesFrom W.heap.size J)
  (hY:∀ b x W1,J b W1->b.length < (Ee s).length->YieldAt Fence.wide 1 prog l (Uv x) W1 fun e W'=>(e = .returned (.bool true)/\J (b++[x]) W'/\Mh n₀ W1 W')\/(e = .returned (.bool false)/\Jx (b++[x]) W'))
  (h0:J [] W) :
  CallsIn Fence.wide 2 prog 81 #[.func (.yield l) #[] #[],.pointer (some (OK Bs 0))] W fun e W'=>(∃ v,e = .returned v)/\((∃ xs,xs=Ee s/\J xs W')\/(∃ b,b <+: Ee s/\Jx b W')):=by
 refine callsIn_of_wp func81 rfl trivial ?_ rfl;simp only[ntmps81,List.size_toArray,List.length_cons,List.length_nil,Nat.reduceAdd,Nat.reduceSub,Array.replicate_succ,Array.replicate_zero,List.push_toArray,List.append_toArray,List.nil_append,List.cons_append];refine wpIn_wide.2 (wp_scope_straight ((wpIn_wide (n:=2)).1 ?_));gi_wp2_with ((with_reducible refine And.intro ?_ ?_);exact trivial;gi_at_call 30;refine(callsIn_wide.2 (takenWords_any _)).mono ?_;rintro e w1 ⟨rfl,hM,F⟩);refine wpIn_label ?_;gi_wp2;have ai:=F.size;gi_loopw [4] (fun a wr => ∃ (i f:Nat) (b:List (Ab × Nat)),i<=s.size/\s.size - i < f/\a = .int .i64 (i:Int)/\Ee s=b++Ch f (s.data.toList.drop i) i/\J b wr/\Boxed wr Bs 9 (.string s)/\M8 wr W.heap.size/\Em wr/\W.heap.size<=wr.heap.size)
  (fun a _=>s.size - (intOf a).toNat)
 case atStart=>exact⟨0,s.size+1,[],by omega,by omega,rfl,rfl,hJ [] W w1 none h0 (Oi F) (fun r e=>by cases e),(F.block Bs hsrc.lt).trans hsrc,hM,hG.below F,ai⟩
 case round =>
  obtain⟨i,f,b,hi,hf,rfl,k,T,N,hW,aa,ak⟩:=hrel;have ah:=N.cell;have S:=N.lt;obtain⟨f,rfl⟩:∃ g,f=g+1:=⟨f - 1,by omega⟩;have ae:s.size<=9223372036854775807:=OC
  have j:∀ w',Below wr.heap.size wr w'->J b w'/\Boxed w' Bs 9 (.string s)/\M8 w' W.heap.size/\Em w'/\W.heap.size<=w'.heap.size:=fun w' hb =>
   ⟨hJ b wr w' none T (Oi hb) (fun r e=>by cases e),(hb.block Bs S).trans N,Fv hW hb,aa.below hb,by have:=hb.size;omega⟩
  by_cases hlt:i < s.size
  ·have ab:=s[i].toNat_lt;have ag:(wr.alloc (Obj.cells #[.int .i64 0,.string ⟨#[]⟩,.int .i64 0,.int .i64 0,.int .i64 0,.int .i64 0,.int .i64 0] 149)).cell? (OK Bs 0)=some (.string s):=((OP wr _).cell (p:=(OK Bs 0)) S).trans ah;have E:s.data.toList.drop i=s[i]::s.data.toList.drop (i+1):=Bx s i hlt;cases h32:((s[i].toNat:Int) == 32) with
   | true =>
    have z:Hid (Ee s=b++Ch f (s.data.toList.drop (i+1)) (i+1)):=by
     rw[E,Xq _ _ _ _ (Or.inl (J6 _ 32 h32))]at k;exact k
    exact DdScanZx112
   | false =>
    cases h10:((s[i].toNat:Int) == 10) with
    | true =>
     have z:Hid (Ee s=b++Ch f (s.data.toList.drop (i+1)) (i+1)):=by
      rw[E,Xq _ _ _ _ (Or.inr (J6 _ 10 h10))]at k;exact k
     exact DdScanZx112
    | false =>
     cases h35:((s[i].toNat:Int) == 35) with
     | true =>
      have o:=Dx _ 32 h32;have m:=Dx _ 10 h10;have K:=J6 _ 35 h35;have U:(s.data.toList.drop i).length=s.size - i:=OF;have y:=Qai (s.extract i s.size).data.toList;rw[Hb,U,<- Hb]at y;have O:=Qg0 f i s[i] (s.data.toList.drop (i+1)) (fun h=>h.elim o m) K;rw[<- E,List.drop_drop]at O;rw[O]at k;have af:1<=Ez (s.data.toList.drop i):=(by rw[E,K];rw[Ez,List.takeWhile_cons_of_pos (by rfl)];simp);obtain⟨r,HR⟩:∃ r,Hid (Ez (s.data.toList.drop i)=r):=⟨_,(rfl:Ez (s.data.toList.drop i)=_)⟩;rw[Hb,HR.out,<- Hb]at y;rw[HR.out]at k af;clear O E o m K U;have z:Hid (Ee s=b++Ch f (s.data.toList.drop (i+r)) (i+r)):=k;clear k;by_cases hrl:r < s.size - i
      ·have Z:Hid (Lib.indexByte (s.extract i s.size).data.toList ((10:Int).toNat.toUInt8)=(r:Int)):=by
        rw[if_pos hrl]at y;exact y
       clear y;gi_wp2_with (first
        | ((with_reducible refine And.intro ?_ ?_);exact trivial;gi_at_call 82;refine(callsIn_wide.2 (Tryz.strings_IndexByte _ _ _)).mono ?_;rintro e w' ⟨rfl,rfl⟩;rw[Z.out])
        | gi_in)
       have X:=j _ (OP wr (Obj.cells #[.int .i64 0,.string ⟨#[]⟩,.int .i64 0,.int .i64 0,.int .i64 0,.int .i64 0,.int .i64 0] 149));refine⟨⟨i+r,f,b,by omega,by omega,by go_num,z.out,X⟩, ?_⟩;simp[intOf];omega
      ·have Z:Hid (Lib.indexByte (s.extract i s.size).data.toList ((10:Int).toNat.toUInt8) = -1):=by
        rw[if_neg hrl]at y;exact y
       clear y;have C:Hid (Ee s=b):=by
        have:=z.out;rw[List.drop_of_length_le OH,Xr,List.append_nil]at this;exact this
       gi_wp2_with (first
        | ((with_reducible refine And.intro ?_ ?_);exact trivial;gi_at_call 82;refine(callsIn_wide.2 (Tryz.strings_IndexByte _ _ _)).mono ?_;rintro e w' ⟨rfl,rfl⟩;rw[Z.out])
        | gi_in)
       have X:=j _ (OP wr (Obj.cells #[.int .i64 0,.string ⟨#[]⟩,.int .i64 0,.int .i64 0,.int .i64 0,.int .i64 0,.int .i64 0] 149));rw[Exit.noGoto_normal];go_end0;exact⟨⟨_,rfl⟩,.inl ⟨b,C.out.symm,X.1⟩⟩
     | false =>
      cases hL:Bp (s[i].toNat:Int) with
      | true =>
       have o:=Dx _ 32 h32;have m:=Dx _ 10 h10;have u:=Dx _ 35 h35;obtain⟨rest,t,c⟩:=Nq s i f hlt o m u;rw[t]at k;have d:Bb (s.data.toList.drop i)=(F1 (A5 (s.data.toList.drop i))):=Qa7 s i hlt hL;have q:(s.extract i s.size).data.toList=s.data.toList.drop i:=Hb s i;have H:(s.extract i s.size).size=s.size - i:=Mm s i;obtain⟨P,I⟩:∃ P,Hid (Bb (s.data.toList.drop i)=P):=⟨_,(rfl:Bb (s.data.toList.drop i)=_)⟩;rw[I.out]at k c d;have R:Hid (A3 (F1 (A5 (s.extract i s.size).data.toList)) = .agg #[.int .i64 P.kind,.string (Aj P.text),.int .i64 P.type,.int .i64 P.n,.int .i64 0,.int .i64 (P.size:Int),.int .i64 P.code]):=by
        rw[Hid,q,<- d];rfl
       have z:Hid (Ee s=b++(P,i)::rest):=k;have A:b.length < (Ee s).length:=(by rw[k];simp);have Q:Hid ((P.code≠0/\rest=[])\/(P.code=0/\1<=P.size/\i+P.size<=s.size/\rest=Ch f (s.data.toList.drop (i+P.size)) (i+P.size))):=c;clear k t E d c o m u q;have B:=(j _ (OP wr (Obj.cells #[.int .i64 0,.string ⟨#[]⟩,.int .i64 0,.int .i64 0,.int .i64 0,.int .i64 0,.int .i64 0] 149))).2.2.1;have D:=(j _ (OP wr (Obj.cells #[.int .i64 0,.string ⟨#[]⟩,.int .i64 0,.int .i64 0,.int .i64 0,.int .i64 0,.int .i64 0] 149))).2.2.2.1;gi_wp2_with (first
        | ((with_reducible refine And.intro ?_ ?_);exact trivial;gi_at_call 83;refine(callsIn_wide.2 (isLetter_any _ _)).mono ?_;rintro e w' ⟨rfl,rfl⟩;rw[hL])
        | ((with_reducible refine And.intro ?_ ?_);exact trivial;gi_at_call 85;refine(callsIn_wide.2 (isDigit_any _ _)).mono ?_;rintro e w' ⟨rfl,rfl⟩;rw[hD])
        | gi_in)
       refine⟨trivial, ?_⟩;refine(callsIn_wide.2 (readName_any _ _ _ OC B)).mono ?_;exact DdScanZx196
      | false =>
       cases hD:B4 (s[i].toNat:Int) with
       | true =>
        have o:=Dx _ 32 h32;have m:=Dx _ 10 h10;have u:=Dx _ 35 h35;obtain⟨rest,t,c⟩:=Nq s i f hlt o m u;rw[t]at k;have d:Bb (s.data.toList.drop i)=(E1 (A5 (s.data.toList.drop i))):=Qch s i hlt hL hD;have q:(s.extract i s.size).data.toList=s.data.toList.drop i:=Hb s i;have H:(s.extract i s.size).size=s.size - i:=Mm s i;have ad:1<=Ar (A5 (s.extract i s.size).data.toList):=(by rw[q];exact Qgo s i hlt hD);obtain⟨P,I⟩:∃ P,Hid (Bb (s.data.toList.drop i)=P):=⟨_,(rfl:Bb (s.data.toList.drop i)=_)⟩;rw[I.out]at k c d;have R:Hid (A3 (E1 (A5 (s.extract i s.size).data.toList)) = .agg #[.int .i64 P.kind,.string (Aj P.text),.int .i64 P.type,.int .i64 P.n,.int .i64 0,.int .i64 (P.size:Int),.int .i64 P.code]):=by
         rw[Hid,q,<- d];rfl
        have z:Hid (Ee s=b++(P,i)::rest):=k;have A:b.length < (Ee s).length:=(by rw[k];simp);have Q:Hid ((P.code≠0/\rest=[])\/(P.code=0/\1<=P.size/\i+P.size<=s.size/\rest=Ch f (s.data.toList.drop (i+P.size)) (i+P.size))):=c;clear k t E d c o m u q;have B:=(j _ (OP wr (Obj.cells #[.int .i64 0,.string ⟨#[]⟩,.int .i64 0,.int .i64 0,.int .i64 0,.int .i64 0,.int .i64 0] 149))).2.2.1;have D:=(j _ (OP wr (Obj.cells #[.int .i64 0,.string ⟨#[]⟩,.int .i64 0,.int .i64 0,.int .i64 0,.int .i64 0,.int .i64 0] 149))).2.2.2.1;gi_wp2_with (first
         | ((with_reducible refine And.intro ?_ ?_);exact trivial;gi_at_call 83;refine(callsIn_wide.2 (isLetter_any _ _)).mono ?_;rintro e w' ⟨rfl,rfl⟩;rw[hL])
         | ((with_reducible refine And.intro ?_ ?_);exact trivial;gi_at_call 85;refine(callsIn_wide.2 (isDigit_any _ _)).mono ?_;rintro e w' ⟨rfl,rfl⟩;rw[hD])
         | gi_in)
        refine⟨trivial, ?_⟩;refine(callsIn_wide.2 (readInt_any _ _ _ OC B D ad)).mono ?_;exact DdScanZx196
       | false =>
        cases h34:((s[i].toNat:Int) == 34) with
        | true =>
         have o:=Dx _ 32 h32;have m:=Dx _ 10 h10;have u:=Dx _ 35 h35;obtain⟨rest,t,c⟩:=Nq s i f hlt o m u;rw[t]at k;have d:Bb (s.data.toList.drop i)=(D1 (s.data.toList.drop i)):=Qci s i hlt (J6 _ 34 h34);have q:(s.extract i s.size).data.toList=s.data.toList.drop i:=Hb s i;have H:(s.extract i s.size).size=s.size - i:=Mm s i;obtain⟨P,I⟩:∃ P,Hid (Bb (s.data.toList.drop i)=P):=⟨_,(rfl:Bb (s.data.toList.drop i)=_)⟩;rw[I.out]at k c d;have R:Hid (A3 (D1 (s.extract i s.size).data.toList) = .agg #[.int .i64 P.kind,.string (Aj P.text),.int .i64 P.type,.int .i64 P.n,.int .i64 0,.int .i64 (P.size:Int),.int .i64 P.code]):=by
          rw[Hid,q,<- d];rfl
         have z:Hid (Ee s=b++(P,i)::rest):=k;have A:b.length < (Ee s).length:=(by rw[k];simp);have Q:Hid ((P.code≠0/\rest=[])\/(P.code=0/\1<=P.size/\i+P.size<=s.size/\rest=Ch f (s.data.toList.drop (i+P.size)) (i+P.size))):=c;clear k t E d c o m u q;have B:=(j _ (OP wr (Obj.cells #[.int .i64 0,.string ⟨#[]⟩,.int .i64 0,.int .i64 0,.int .i64 0,.int .i64 0,.int .i64 0] 149))).2.2.1;have D:=(j _ (OP wr (Obj.cells #[.int .i64 0,.string ⟨#[]⟩,.int .i64 0,.int .i64 0,.int .i64 0,.int .i64 0,.int .i64 0] 149))).2.2.2.1;gi_wp2_with (first
          | ((with_reducible refine And.intro ?_ ?_);exact trivial;gi_at_call 83;refine(callsIn_wide.2 (isLetter_any _ _)).mono ?_;rintro e w' ⟨rfl,rfl⟩;rw[hL])
          | ((with_reducible refine And.intro ?_ ?_);exact trivial;gi_at_call 85;refine(callsIn_wide.2 (isDigit_any _ _)).mono ?_;rintro e w' ⟨rfl,rfl⟩;rw[hD])
          | gi_in)
         refine⟨trivial, ?_⟩;refine(callsIn_wide.2 (readText_any _ _ OC OC)).mono ?_;exact DdScanZx196
        | false =>
         have o:=Dx _ 32 h32;have m:=Dx _ 10 h10;have u:=Dx _ 35 h35;obtain⟨rest,t,c⟩:=Nq s i f hlt o m u;rw[t]at k;have d:Bb (s.data.toList.drop i)=(Fl (s.data.toList.drop i)):=Qek s i hlt hL hD (Dx _ 34 h34);have q:(s.extract i s.size).data.toList=s.data.toList.drop i:=Hb s i;have H:(s.extract i s.size).size=s.size - i:=Mm s i;obtain⟨P,I⟩:∃ P,Hid (Bb (s.data.toList.drop i)=P):=⟨_,(rfl:Bb (s.data.toList.drop i)=_)⟩;rw[I.out]at k c d;have R:Hid (A3 (Fl (s.extract i s.size).data.toList) = .agg #[.int .i64 P.kind,.string (Aj P.text),.int .i64 P.type,.int .i64 P.n,.int .i64 0,.int .i64 (P.size:Int),.int .i64 P.code]):=by
          rw[Hid,q,<- d];rfl
         have z:Hid (Ee s=b++(P,i)::rest):=k;have A:b.length < (Ee s).length:=(by rw[k];simp);have Q:Hid ((P.code≠0/\rest=[])\/(P.code=0/\1<=P.size/\i+P.size<=s.size/\rest=Ch f (s.data.toList.drop (i+P.size)) (i+P.size))):=c;clear k t E d c o m u q;have B:=(j _ (OP wr (Obj.cells #[.int .i64 0,.string ⟨#[]⟩,.int .i64 0,.int .i64 0,.int .i64 0,.int .i64 0,.int .i64 0] 149))).2.2.1;have D:=(j _ (OP wr (Obj.cells #[.int .i64 0,.string ⟨#[]⟩,.int .i64 0,.int .i64 0,.int .i64 0,.int .i64 0,.int .i64 0] 149))).2.2.2.1;gi_wp2_with (first
          | ((with_reducible refine And.intro ?_ ?_);exact trivial;gi_at_call 83;refine(callsIn_wide.2 (isLetter_any _ _)).mono ?_;rintro e w' ⟨rfl,rfl⟩;rw[hL])
          | ((with_reducible refine And.intro ?_ ?_);exact trivial;gi_at_call 85;refine(callsIn_wide.2 (isDigit_any _ _)).mono ?_;rintro e w' ⟨rfl,rfl⟩;rw[hD])
          | gi_in)
         refine⟨trivial, ?_⟩;refine(callsIn_wide.2 (readMark_any _ _ OC OC)).mono ?_;exact DdScanZx196
  ·have z:Hid (Ee s=b):=by
    rw[List.drop_of_length_le OH,Xr,List.append_nil]at k;exact k
   clear k;gi_wp2;rw[Exit.noGoto_normal];go_end0;exact⟨⟨_,rfl⟩,.inl ⟨b,z.out.symm,T⟩⟩
end Go.Proofs.YtjlaedokfbcbpaaGreatDoor
