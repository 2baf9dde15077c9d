import Derived.Laws.StructEq
import Derived.Test.YtahibkjkpmdhgaaGreatDoorKCfL
import Derived.Test.YtahibkjkpmdhgaaGreatDoorKCfO
import Derived.Test.YtahibkjkpmdhgaaGreatDoorKCdW
set_option maxRecDepth 100000
set_option maxHeartbeats 4000000
namespace Go.Proofs.YtahibkjkpmdhgaaGreatDoor
open Go.RowKit
theorem Qet (a0 c0:Int) (a1 a2 c1 c2:ByteArray) (w:World):(Op.equalIn 10000 150 (.agg #[.int .i64 a0,.string a1,.string a2]) (.agg #[.int .i64 c0,.string c1,.string c2])).run Tryz.prog w = .ok (a0 == c0 && a1.toList == c1.toList && a2.toList == c2.toList) w:=by
 have c:=Tryz.underlying3;have d:=Tryz.underlying9;have a:Tryz.prog.underlying 150=some (.struct (Tryz.prog.fieldsOf 150)):=OA
 have b:Tryz.prog.stoodInHeld 150=false:=OA
 rw[show (10000:Nat)=9999+1 from rfl,run_equalIn_agg w 9999 150 _ _ a b];simp only[Program.fieldsOf,Tryz.underlying150];go_simp;by_cases h1:a0=c0 <;> by_cases h2:a1.toList=c1.toList <;> by_cases h3:a2.toList=c2.toList <;> simp[h1,h2,h3]
theorem Uj (a b c x y z:Int) (w:World):(Op.equalIn 10000 142 (.agg #[.int .i64 a,.int .i64 b,.int .i64 c]) (.agg #[.int .i64 x,.int .i64 y,.int .i64 z])).run Tryz.prog w = .ok (a == x && b == y && c == z) w:=by
 have g:=Tryz.underlying3;have d:Tryz.prog.underlying 142=some (.struct (Tryz.prog.fieldsOf 142)):=OA
 have f:Tryz.prog.stoodInHeld 142=false:=OA
 rw[show (10000:Nat)=9999+1 from rfl,run_equalIn_agg w 9999 142 _ _ d f];simp only[Program.fieldsOf,Tryz.underlying142];go_simp;by_cases h1:a=x <;> by_cases h2:b=y <;> by_cases h3:c=z <;> simp[h1,h2,h3]
theorem Zc : Tryz.prog.eqGuardType Tryz.prog.depth 150=false:=OA
theorem Wy : Tryz.prog.eqGuardType Tryz.prog.depth 142=false:=OA
theorem Se {a b:Am} (ha:Hi a) (hb:Hi b):(D5 a == D5 b && (Eu a).toList == (Eu b).toList && (Et a).toList == (Et b).toList)=decide (a=b):=by
 cases a with
 | none=>cases b <;> simp[D5,Eu,Et]
 | clash=>cases b <;> simp[D5,Eu,Et]
 | known s k =>
  cases b with
  | none=>simp[D5]
  | clash=>simp[D5]
  | known s' k' =>
   simp only[D5,Eu,Et,P6 ha.1 hb.1,P6 ha.2 hb.2];by_cases h1:s=s' <;> by_cases h2:k=k' <;> simp[h1,h2]
theorem Ce.store {g:Nat} {V:World} {X:List Am} (h:Ce g V X) (u:Nat) (hu:u < X.length) (J:Am):Ce g ((((V.setCell (OI g (u * 3)) (.int .i64 (D5 J))).setCell (OI g (u * 3+1)) (.string (Eu J))).setCell (OI g (u * 3+2)) (.string (Et J))).drew) (X.set u J):=by
 obtain⟨d,i,f,j⟩:=h.blk;refine⟨((d.setIfInBounds (u * 3) (.int .i64 (D5 J))).setIfInBounds (u * 3+1) (.string (Eu J))).setIfInBounds (u * 3+2) (.string (Et J)), ?_,by simp[f],fun v hv => ?_⟩
 ·show (((V.setCell (OI g (u * 3)) (.int .i64 (D5 J))).setCell (OI g (u * 3+1)) (.string (Eu J))).setCell (OI g (u * 3+2)) (.string (Et J))).heap[g]? = _
  simp[World.setCell,Array.getElem?_modify,i]
 ·rw[List.length_set]at hv;have k:u * 3+2 < d.size:=by rw[f];omega
  by_cases e:v=u
  ·subst e;simp only[List.getElem_set_self];refine⟨?_, ?_, ?_⟩
   ·rw[Array.getElem?_setIfInBounds,if_neg Ou,Array.getElem?_setIfInBounds,if_neg Ou,Array.getElem?_setIfInBounds,if_pos rfl,if_pos Ou]
   ·rw[Array.getElem?_setIfInBounds,if_neg Ou,Array.getElem?_setIfInBounds,if_pos rfl,if_pos OD]
   ·rw[Array.getElem?_setIfInBounds,if_pos rfl,if_pos OD]
  ·rw[List.getElem_set_ne (fun h=>e h.symm)];obtain⟨a,b,c⟩:=j v hv;refine⟨?_, ?_, ?_⟩
   ·rw[Array.getElem?_setIfInBounds,if_neg Ou,Array.getElem?_setIfInBounds,if_neg Ou,Array.getElem?_setIfInBounds,if_neg Ou];exact a
   ·rw[Array.getElem?_setIfInBounds,if_neg Ou,Array.getElem?_setIfInBounds,if_neg Ou,Array.getElem?_setIfInBounds,if_neg Ou];exact b
   ·rw[Array.getElem?_setIfInBounds,if_neg Ou,Array.getElem?_setIfInBounds,if_neg Ou,Array.getElem?_setIfInBounds,if_neg Ou];exact c
theorem Ut (W:List Int) (v:Int) (i:Nat) (x:Int):x ∈ W.take i++[v]++W.drop i ↔ x ∈ W\/x=v:=by
 have e:x ∈ W ↔ x ∈ W.take i\/x ∈ W.drop i:=by
  rw[<- List.mem_append,List.take_append_drop]
 simp only[List.mem_append,List.mem_singleton,e];constructor
 ·rintro((h|h)|h)
  ·exact .inl (.inl h)
  ·exact .inr h
  ·exact .inl (.inr h)
 ·rintro((h|h)|h)
  ·exact .inl (.inl h)
  ·exact .inr h
  ·exact .inl (.inr h)
theorem Qas {W:List Int} {v:Int} {i:Nat} (hd:Fa W) (hs:Jx W v i false):Fa (W.take i++[v]++W.drop i):=by
 obtain⟨s,n,o,r⟩:=hs;have k:¬ v ∈ W:=by simpa using r.symm
 have g:∀ j (h:j < W.length),i<=j->W[j] < v:=fun j h hj=>by
  have a:=o j h hj;have b:W[j]≠v:=fun e=>k (by rw[<- e];exact List.getElem_mem h)
  omega
 have m:(W.take i++[v]++W.drop i).length=W.length+1:=by simp;omega
 have d:∀ q (f:q < (W.take i++[v]++W.drop i).length),(W.take i++[v]++W.drop i)[q]=if h:q < i then W[q]'Ou else if h':q=i then v else W[q - 1]'Ou:=fun q f=>by
  have h:=Ns W v i s q;rw[List.getElem?_eq_getElem f]at h;split
  ·rename_i a;rw[if_pos a,List.getElem?_eq_getElem Ou]at h;exact Option.some.inj h
  ·rename_i a
   rw[if_neg a]at h;split
   ·rename_i b;rw[if_pos b]at h;exact Option.some.inj h
   ·rename_i b;rw[if_neg b,List.getElem?_eq_getElem Ou]at h;exact Option.some.inj h
 intro p q t f l;rw[d p t,d q f];by_cases a:p < i
 ·rw[dif_pos a];by_cases b:q < i
  ·rw[dif_pos b];exact hd p q _ _ l
  ·rw[dif_neg b];by_cases c:q=i
   ·rw[dif_pos c];exact n p _ a
   ·rw[dif_neg c];exact hd p (q - 1) _ _ Ou
 ·rw[dif_neg a,dif_neg Ou,dif_neg Ou];by_cases c:p=i
  ·rw[dif_pos c];exact g (q - 1) _ Ou
  ·rw[dif_neg c];exact hd (p - 1) (q - 1) _ _ Ou
structure Ei (B g gl:Nat) (c:List Af) (f:Af) (ca ia:Option Addr) (cc ic lc:Nat) (pv:Value) (X:List Am) (W:List Int) (wa:Option Addr) (wc:Nat) (w:World):Prop where
 gB:B<=g
 glB:B<=gl
 ne:g≠gl
 size:B<=w.heap.size
 tr:Gh g w (.slice ca c.length cc) f pv (.slice ia f.ins.length ic) (.slice (some (OI gl 0)) f.ins.length lc) (.slice wa W.length wc)
 lays:Ce gl w X
 len:X.length=f.ins.length
 row:w.ownsRow B 3 1 (.slice wa W.length wc) W.length (Ar W)
 rg:(Value.slice wa W.length wc).ownBlock≠some g
 rl:(Value.slice wa W.length wc).ownBlock≠some gl
theorem It {w w':World} {B e size n:Nat} {v:Value} {xs:List Value} (h:w.ownsRow B e size v n xs) (hk:∀ k,v.ownBlock=some k->w'.heap[k]? = w.heap[k]?):w'.ownsRow B e size v n xs:=by
 obtain⟨d,c⟩:=h;refine⟨d, ?_⟩;rcases c with c|⟨g,a,b,rfl,f,i,r⟩
 ·exact .inl c
 ·exact .inr ⟨g,a,b,rfl,f,(hk g rfl).trans i,r⟩
theorem L2 {w:World} {B e size n:Nat} {v:Value} {xs:List Value} (h:w.ownsRow B e size v n xs) {k:Nat} (hk:v.ownBlock=some k):k < w.heap.size:=by
 rcases h.2 with⟨rfl,_⟩|⟨g,a,b,rfl,_,c,_⟩
 ·simp[Value.ownBlock]at hk
 ·have:g=k:=by simpa[Value.ownBlock]using hk
  subst this;exact(Array.getElem?_eq_some_iff.1 c).1
theorem W9 : ∀ {a b:Am},Hi a->Hi b->Hi (Bb a b)
 | .none,.none,_,_=>trivial
 | .none,.known _ _,_,h=>h
 | .none,.clash,_,_=>trivial
 | .known _ _,.none,h,_=>h
 | .known _ _,.clash,_,_=>trivial
 | .clash,.none,_,_=>trivial
 | .clash,.known _ _,_,_=>trivial
 | .clash,.clash,_,_=>trivial
 | .known s k,.known s' k',h,_=>by
  rw[Bb]
  by_cases e:k=k'
  ·rw[if_pos e];exact⟨Rt h.1,h.2⟩
  ·rw[if_neg e];trivial
theorem Uy {w:World} {B n:Nat} {v:Value} {xs:List Value} (h:w.ownsRow B 3 1 v n xs) {k:Nat} {cur:Array Value} {ty:TypeId} {fr:Nat × Nat} (hk:w.heap[k]? = some (.cells cur ty fr)) (hne:ty≠3):v.ownBlock≠some k:=fun e=>by
 rcases h.2 with⟨rfl,_⟩|⟨g,b,c,rfl,_,a,_⟩
 ·simp[Value.ownBlock]at e
 ·have:g=k:=by simpa[Value.ownBlock]using e
  subst this
  rw[hk]at a
  injection a with a
  injection a with _ h2
  exact hne h2
theorem Ei.below {B g gl:Nat} {c:List Af} {f:Af} {ca ia:Option Addr} {cc ic lc:Nat} {pv:Value} {X:List Am} {W:List Int} {wa:Option Addr} {wc:Nat} {w w':World} (h:Ei B g gl c f ca ia cc ic lc pv X W wa wc w) (hb:OH w w'):Ei B g gl c f ca ia cc ic lc pv X W wa wc w' :=
 ⟨h.gB,h.glB,h.ne,Nat.le_trans h.size hb.size,h.tr.below hb,h.lays.below hb,h.len,It h.row (fun k hk=>hb.block k (L2 h.row hk)),h.rg,h.rl⟩
structure Qg0 (g gl:Nat) (o o':Option Nat) (w w':World):Prop where
 keep:∀ k,k < w.heap.size->k≠g->k≠gl->o≠some k->w'.heap[k]? = w.heap[k]?
 own:∀ k,o'=some k->k < w.heap.size->o=some k
def Ml (B g gl:Nat) (c:List Af) (f:Af) (ca ia:Option Addr) (cc ic lc:Nat) (pv:Value) (X:List Am) (W:List Int) (at':Nat) (J:Am) (ch:Prop) (o:Option Nat) (w:World) (e:Ending) (w':World):Prop :=
 ∃ (W':List Int) (wa':Option Addr) (wc':Nat),e = .returned (.tuple #[])/\Ei B g gl c f ca ia cc ic lc pv (X.set at' J) W' wa' wc' w'/\Below B w w'/\Fa W'/\W'.length<=W.length+1/\(∀ v,v ∈ W' ↔ v ∈ W\/(v=(at':Int)/\ch))/\Qg0 g gl o (Value.slice wa' W'.length wc').ownBlock w w'
theorem P8 (V:World) (gl o:Nat) (x y z:Value) (k:Nat) (hk:k≠gl):(((V.setCell (OI gl o) x).setCell (OI gl (o+1)) y).setCell (OI gl (o+2)) z).heap[k]? = V.heap[k]?:=by
 simp[World.setCell,Array.getElem?_modify,Ne.symm hk]
theorem Rx (m:Nat) (hm:m<=200) (B g gl:Nat) (c:List Af) (f:Af) (_hil:f.ins.length<=50000) (ca ia:Option Addr) (cc ic lc:Nat) (pv:Value) (X:List Am) (W:List Int) (wa:Option Addr) (wc:Nat) (w:World) (hS:Ei B g gl c f ca ia cc ic lc pv X W wa wc w) (at':Nat) (hat:at' < f.ins.length) (a b:Am) (ha:X[at']'(by rw[hS.len];exact hat)=a) (hbn:b ≠ .none) (la:Dv m a) (lb:Dv m b) (sa:Hi a) (sb:Hi b) (hdn:Fa W) (hwl:W.length<=50000) :
  Calls Tryz.prog 127 #[.pointer (some (OI g 0)),.int .i64 (at':Int),H6 b] w (Ml B g gl c f ca ia cc ic lc pv X W at' (Bb a b) (Bb a b≠a) (Value.slice wa W.length wc).ownBlock w):=by
 have bb:at' < X.length:=by rw[hS.len];exact hat
 rw[Hh];obtain⟨ab,al⟩:∃ x,D5 b=x:=⟨_,rfl⟩;obtain⟨ac,am⟩:∃ x,Eu b=x:=⟨_,rfl⟩;obtain⟨ad,an⟩:∃ x,Et b=x:=⟨_,rfl⟩;rw[al,am,an];obtain⟨t,a4⟩:∃ Y,w.alloc (.cells #[.int .i64 ab,.string ac,.string ad] 150)=Y:=⟨_,rfl⟩;have C:OH w t:=by rw[<- a4];exact Ao w _
 have p1:t.heap[w.heap.size]? = some (.cells #[.int .i64 ab,.string ac,.string ad] 150):=by rw[<- a4];exact Ae w _
 obtain⟨-,-,-,-,-,u5,u6,u7⟩:=(hS.tr.below C).cells;obtain⟨l0,l1,l2⟩:=(hS.lays.below C).cells at' bb;have y0:t.cell? (OK w 0)=some (.int .i64 ab):=by rw[Lib.cell_of_heap p1];rfl
 have y1:t.cell? (OK w 1)=some (.string ac):=by rw[Lib.cell_of_heap p1];rfl
 have y2:t.cell? (OK w 2)=some (.string ad):=by rw[Lib.cell_of_heap p1];rfl
 have br:((at':Int) == (f.ins.length:Int))=false:=by rw[beq_eq_false_iff_ne];omega
 have ce:(at':Int) < (f.ins.length:Int):=Ou
 rw[ha]at l0 l1 l2;obtain⟨T,N⟩:∃ x,D5 a=x:=⟨_,rfl⟩;obtain⟨Z,O⟩:∃ x,Eu a=x:=⟨_,rfl⟩;obtain⟨aa,P⟩:∃ x,Et a=x:=⟨_,rfl⟩;rw[N]at l0;rw[O]at l1;rw[P]at l2;have d:Hid (Ei B g gl c f ca ia cc ic lc pv X W wa wc w):=hS;have b7:t.heap.size=w.heap.size+1:=by rw[<- a4];exact World.size_alloc _ _
 have bm:=hS.lays.lt;have bn:=hS.tr.lt;have HS:Hid (∀ W,OH t W->W.cell? (OI g 6)=some (.slice (some (OI gl 0)) f.ins.length lc)/\W.cell? (OI gl (at' * 3))=some (.int .i64 T)/\W.cell? (OI gl (at' * 3+1))=some (.string Z)/\W.cell? (OI gl (at' * 3+2))=some (.string aa)/\W.cell? (OK w 0)=some (.int .i64 ab)/\W.cell? (OK w 1)=some (.string ac)/\W.cell? (OK w 2)=some (.string ad)):=fun W hW=>⟨(hW.cell (p:=(OI g 6)) (by show g < _;omega)).trans u6,(hW.cell (p:=(OI gl (at' * 3))) (by show gl < _;omega)).trans l0,(hW.cell (p:=(OI gl (at' * 3+1))) (by show gl < _;omega)).trans l1,(hW.cell (p:=(OI gl (at' * 3+2))) (by show gl < _;omega)).trans l2,(hW.cell (p:=(OK w 0)) (by show w.heap.size < _;omega)).trans y0,(hW.cell (p:=(OK w 1)) (by show w.heap.size < _;omega)).trans y1,(hW.cell (p:=(OK w 2)) (by show w.heap.size < _;omega)).trans y2⟩
 obtain⟨J,HJ⟩:∃ J,Hid (Bb a b=J):=⟨_,(rfl:Bb a b=_)⟩;rw[HJ.out];have av:Hid (∀ W,Calls Tryz.prog 153 #[.agg #[.int .i64 T,.string Z,.string aa],.agg #[.int .i64 ab,.string ac,.string ad]] W fun e w'=>e = .returned (.agg #[.int .i64 (D5 J),.string (Eu J),.string (Et J)])/\OH W w'):=fun W=>by
  have h:=Qdp m hm a b hbn la lb sa sb W;rw[Hh,Hh,Hh,N,O,P,al,am,an,HJ.out]at h;exact h
 obtain⟨l,Q⟩:∃ x,D5 J=x:=⟨_,rfl⟩;obtain⟨o,R⟩:∃ x,Eu J=x:=⟨_,rfl⟩;obtain⟨q,S⟩:∃ x,Et J=x:=⟨_,rfl⟩;rw[Q,R,S]at av;have a1:Hid (D5 J=l/\Eu J=o/\Et J=q):=⟨Q,R,S⟩;have ah:Hid ((l == T && o.toList == Z.toList && q.toList == aa.toList)=decide (J=a)):=by
  rw[Hid,<- Q,<- R,<- S,<- N,<- O,<- P];exact Se (by rw[<- HJ.out];exact W9 sa sb) sa
 have b1:Hid (X[at']'bb=a):=ha;have az:Hid (Fa W):=hdn;have aq:Hid (gl < w.heap.size/\g < w.heap.size/\g≠gl):=⟨bm,bn,hS.ne⟩;have a0:Hid (∀ W j,OH t W->W.frozen? (OI gl j)=false):=fun W j hW=>((hS.lays.below C).below hW).froz j
 clear hS p1 N O P al am an Q R S ha bm bn;go_enter Tryz.func127,Tryz.ntmps127;go_wp2_with fail;go_region_held3 (fun W=>W.cell? (OI g 6)=some (.slice (some (OI gl 0)) f.ins.length lc)/\W.cell? (OI gl (at' * 3))=some (.int .i64 T)/\W.cell? (OI gl (at' * 3+1))=some (.string Z)/\W.cell? (OI gl (at' * 3+2))=some (.string aa)/\W.cell? (OK w 0)=some (.int .i64 ab)/\W.cell? (OK w 1)=some (.string ac)/\W.cell? (OK w 2)=some (.string ad)) (exact HS.out _ (by repeat' (first|exact z|exact z.size|exact Below.refl _ _|apply Below.drew|refine Below.alloc ?_ ?_ _|refine Below.setCell ?_ ?_ _|exact Nat.le_refl _|(simp;done)|(simp;omega)))) (first|(go_at_call 153;refine(av.out _).mono ?_;rintro e w3 ⟨rfl,a5⟩;have z:=(show OH t w3 from Below.trans (by repeat' (first|exact Below.refl _ _|apply Below.drew|refine Below.alloc ?_ ?_ _|refine Below.setCell ?_ ?_ _|exact Nat.le_refl _|(simp;done)|(simp;omega))) (a5.mono (by first|exact Nat.le_refl _|(simp;done)|(simp;omega))));try (have I:w3.heap[w.heap.size+1]? = some (.cells #[.int .i64 0,.string ⟨#[]⟩,.string ⟨#[]⟩] 150):=(by rw[<- b7];exact(a5.block t.heap.size (by first|(simp;done)|(simp;omega))).trans (Ae t _));have cl:w3.cell? (OJ w 1 0)=some (.int .i64 0):=(by rw[Lib.cell_of_heap I];rfl);have cm:w3.cell? (OJ w 1 1)=some (.string ⟨#[]⟩):=(by rw[Lib.cell_of_heap I];rfl);have cn:w3.cell? (OJ w 1 2)=some (.string ⟨#[]⟩):=(by rw[Lib.cell_of_heap I];rfl);have bs:w3.frozen? (OJ w 1 0)=false:=(by simp[World.frozen?,I]);have bt:w3.frozen? (OJ w 1 1)=false:=(by simp[World.frozen?,I]);have bu:w3.frozen? (OJ w 1 2)=false:=(by simp[World.frozen?,I]))));all_goals first
  | (obtain⟨V,hV⟩:∃ V,w3.alloc (.cells #[.int .i64 l,.string o,.string q] 150)=V:=⟨_,rfl⟩;rw[hV];obtain⟨u,G⟩:∃ b,w3.heap.size=b:=⟨_,rfl⟩;rw[G];have ak:OH t V:=(by rw[<- hV];exact z.alloc z.size _);have ae:V.heap[u]? = some (.cells #[.int .i64 l,.string o,.string q] 150):=(by rw[<- hV,<- G];exact Ae _ _);have b5:t.heap.size<=u:=(by rw[<- G];exact z.size))
  | (obtain⟨V,hV⟩:∃ V,((w3.setCell (OJ w 1 0) (.int .i64 l)).setCell (OJ w 1 1) (.string o)).setCell (OJ w 1 2) (.string q)=V:=⟨_,rfl⟩;rw[hV];obtain⟨u,G⟩:∃ b,w.heap.size+1=b:=⟨_,rfl⟩;rw[G];have ak:OH t V:=(by rw[<- hV];exact((z.setCell (p:=(OJ w 1 0)) (by show t.heap.size<=w.heap.size+1;omega) _).setCell (p:=(OJ w 1 1)) (by show t.heap.size<=w.heap.size+1;omega) _).setCell (p:=(OJ w 1 2)) (by show t.heap.size<=w.heap.size+1;omega) _);have ae:V.heap[u]? = some (.cells #[.int .i64 l,.string o,.string q] 150):=(by rw[<- hV,<- G];simp[World.setCell,Array.getElem?_modify,I]);have b5:t.heap.size<=u:=Ou)
 all_goals
  obtain⟨v6,b9,cb,cd,-,-,-⟩:=HS.out V ak;have n0:V.cell? (OI u 0)=some (.int .i64 l):=by rw[Lib.cell_of_heap ae];rfl
  have n1:V.cell? (OI u 1)=some (.string o):=by rw[Lib.cell_of_heap ae];rfl
  have n2:V.cell? (OI u 2)=some (.string q):=by rw[Lib.cell_of_heap ae];rfl
  clear hV G a5 z;have bk:=Qet l T o q Z aa;have cg:=Zc;obtain⟨bq,a7⟩:∃ x,(l == T && o.toList == Z.toList && q.toList == aa.toList)=x:=⟨_,rfl⟩;rw[a7]at bk;go_wp2_with fail;go_quiet (fail)
 all_goals
  cases bq with
  | true =>
   go_wp2_with fail;have hJ:J=a:=by
    have h:=ah.out;rw[a7]at h;exact of_decide_eq_true h.symm
   have b2:X.set at' J=X:=(by rw[hJ,<- b1.out];exact List.set_getElem_self ..);have a8:OH w (V.drewN nq):=B9 _ (C.trans (ak.mono C.size));refine bodyPost_ret (v:=.tuple #[]) (by simp[results,Tryz.results127,go_sem]) rfl ⟨W,wa,wc,rfl, ?_,a8.mono d.out.size,az.out,by omega,fun v => ?_,⟨fun k hk _ _ _=>a8.block k hk,fun k h _=>h⟩⟩
   ·rw[b2];exact d.out.below a8
   ·constructor
    ·exact fun h => .inl h
    ·rintro(h|⟨_,h⟩)
     ·exact h
     ·exact(h hJ).elim
  | false =>
   have E:OH t (V.drewN nq):=B9 _ ak;obtain⟨F,a3⟩:∃ F,V.drewN nq=F:=⟨_,rfl⟩;rw[a3]at E |-
   have ao:F.heap[u]? = some (.cells #[.int .i64 l,.string o,.string q] 150):=(by rw[<- a3];exact ae);obtain⟨w6,ci,cj,ck,-,-,-⟩:=HS.out F E;have m0:F.cell? (OI u 0)=some (.int .i64 l):=(by rw[Lib.cell_of_heap ao];rfl);have m1:F.cell? (OI u 1)=some (.string o):=(by rw[Lib.cell_of_heap ao];rfl);have m2:F.cell? (OI u 2)=some (.string q):=(by rw[Lib.cell_of_heap ao];rfl);clear a3 bk v6 b9 cb cd n0 n1 n2 ae ak;have au:g≠gl:=aq.out.2.2;have bc:u≠gl:=(by have:=aq.out.1;omega);have HK:Hid (∀ U:World,(∀ k,k≠gl->U.heap[k]? = F.heap[k]?)->U.cell? (OI g 6)=some (.slice (some (OI gl 0)) f.ins.length lc)/\U.cell? (OI u 0)=some (.int .i64 l)/\U.cell? (OI u 1)=some (.string o)/\U.cell? (OI u 2)=some (.string q)):=fun U hW=>⟨(World.cell?_of_block (a:=(OI g 6)) (hW g au)).trans w6,(World.cell?_of_block (a:=(OI u 0)) (hW u bc)).trans m0,(World.cell?_of_block (a:=(OI u 1)) (hW u bc)).trans m1,(World.cell?_of_block (a:=(OI u 2)) (hW u bc)).trans m2⟩
   have bs:=a0.out F (at' * 3) E;have bt:=a0.out F (at' * 3+1) E;have bu:=a0.out F (at' * 3+2) E;go_wp2_with fail;go_region_held3 (fun W=>W.cell? (OI g 6)=some (.slice (some (OI gl 0)) f.ins.length lc)/\W.cell? (OI u 0)=some (.int .i64 l)/\W.cell? (OI u 1)=some (.string o)/\W.cell? (OI u 2)=some (.string q)) (exact HK.out _ (fun k hk=>by first|rfl|exact P8 F gl (at' * 3) (.int .i64 l) (.string o) (.string q) k hk)) (fail);all_goals
    obtain⟨s,aj⟩:∃ s,(((F.setCell (OI gl (at' * 3)) (.int .i64 l)).setCell (OI gl (at' * 3+1)) (.string o)).setCell (OI gl (at' * 3+2)) (.string q)).drew=s:=⟨_,rfl⟩;rw[aj];have bz:Hid (∀ k,k≠gl->s.heap[k]? = F.heap[k]?):=fun k hk=>by rw[<- aj];exact P8 F gl (at' * 3) (.int .i64 l) (.string o) (.string q) k hk
    have af:Hid (∀ k,k < w.heap.size->k≠gl->s.heap[k]? = w.heap[k]?):=fun k hk br=>((bz.out k br).trans (E.block k Ou)).trans (C.block k hk)
    have ag:Hid (s.ownsRow B 3 1 (.slice wa W.length wc) W.length (Ar W)):=It d.out.row (fun k hk=>af.out k (L2 d.out.row hk) (fun e=>d.out.rl (by rw[hk,e])));have bv:Hid (Ac s.heap.size s (.slice wa W.length wc) W):=Ac.own ag.out (Nat.le_refl _);have g7:s.cell? (OI g 7)=some (.slice wa W.length wc):=by
     have h:=(af.out g aq.out.2.1 au);rw[World.cell?_of_block (a:=(OI g 7)) h];exact(d.out.tr.cells).2.2.2.2.2.2.2
    have cf:s.drew.cell? (OI g 7)=some (.slice wa W.length wc):=(by rw[World.drew_is_drewN,World.cell?_drewN];exact g7);have bg:Hid (Calls Tryz.prog 154 #[.slice wa W.length wc,.int .i64 (at':Int),.func (Fn.func 155) #[] #[]] s (Ot W (at':Int) s)):=Xg W (at':Int) hdn wa wc Ou _ s bv.out;have ai:Hid (Gh g s (.slice ca c.length cc) f pv (.slice ia f.ins.length ic) (.slice (some (OI gl 0)) f.ins.length lc) (.slice wa W.length wc)):=⟨(af.out g aq.out.2.1 au).trans d.out.tr.blk⟩;have L:Hid (Ce gl s (X.set at' J)):=by
     rw[Hid,<- aj,<- a1.out.1,<- a1.out.2.1,<- a1.out.2.2];exact Ce.store ((d.out.lays.below C).below E) at' bb J
    have A:Hid (Below B w s/\B<=s.heap.size):=by
     have h2:Below B w F:=(C.trans (E.mono C.size)).mono d.out.size;have h3:Below B w s:=by
      rw[<- aj];exact(((h2.setCell (p:=(OI gl (at' * 3))) d.out.glB _).setCell (p:=(OI gl (at' * 3+1))) d.out.glB _).setCell (p:=(OI gl (at' * 3+2))) d.out.glB _).drew
     exact⟨h3,Nat.le_trans d.out.size h3.size⟩
    have bh:Hid True:=trivial;clear aj w6 m0 m1 m2 bs bt bu;by_cases hmem:(at':Int) ∈ W
    ·have M:Hid (decide ((at':Int) ∈ W)=true):=(by rw[Hid];simp[hmem]);clear hmem;go_wp2_with (first|(go_at_call 154;refine bg.out.mono ?_;rintro e w4 ⟨⟨i,b,rfl,H⟩,rfl⟩;have a6:b=true:=(by rw[H.2.2.2];exact M.out);subst a6;have a2:Hid (Jx W (at':Int) i true):=H;clear H));have ch:=bh.out;first|go_end0|skip
     exact⟨W,wa,wc,by first|rfl|simp,⟨d.out.gB,d.out.glB,d.out.ne,A.out.2,ai.out,L.out,by rw[List.length_set];exact d.out.len,ag.out,d.out.rg,d.out.rl⟩,A.out.1,az.out,by omega,fun v=>⟨fun h => .inl h,fun h=>by
      rcases h with h|⟨h,_⟩
      ·exact h
      ·rw[h];exact of_decide_eq_true M.out⟩,⟨fun k hk _ hl _=>af.out k hk hl,fun k h _=>h⟩⟩
    ·have M:Hid (decide ((at':Int) ∈ W)=false):=(by rw[Hid];simp[hmem]);clear hmem;have bw:Hid (J≠a):=fun e=>by
      have h:=ah.out;rw[a7,e]at h;simp at h
     obtain⟨Vq,ar⟩:∃ Vq,s.alloc (.cells #[.int .i64 (at':Int)] 3)=Vq:=⟨_,rfl⟩;have y:Hid (OH s Vq):=(by rw[Hid,<- ar];exact Ao _ _);have aw:Hid (Vq.ownsRow B 3 1 (.slice wa W.length wc) W.length (Ar W)):=It ag.out (fun k hk=>y.out.block k (L2 ag.out hk));have be:Hid (∀ i,Jx W (at':Int) i false->Calls Tryz.prog 156 #[.slice wa W.length wc,.int .i64 (i:Int),.slice (some (OK s 0)) 1 1] Vq (Hf B (W.take i++[(at':Int)]++W.drop i) (Value.slice wa W.length wc).ownBlock Vq)):=fun i hi=>W6 B W W.length i rfl hi.1 (at':Int) wa wc s.heap.size Vq Ou (Nat.le_trans A.out.2 y.out.size) aw.out (by rw[<- ar];exact Ae _ _) (fun e=>absurd (L2 ag.out e) Ou)
     have bx:Hid (∀ K:World,Vq.grownBy K (Value.slice wa W.length wc).ownBlock->K.heap[g]? = some (.cells #[.slice ca c.length cc,.string f.name,pv,.int .i64 f.result,.int .i64 f.slots,.slice ia f.ins.length ic,.slice (some (OI gl 0)) f.ins.length lc,.slice wa W.length wc] 148 (0,0))/\K.heap[gl]? = s.heap[gl]?):=fun K h9=>by
      have bl:g < s.heap.size:=ai.out.lt;have bo:gl < s.heap.size:=L.out.lt;exact⟨((h9.block g (Nat.lt_of_lt_of_le bl y.out.size) (fun e=>d.out.rg e.symm)).trans (y.out.block g bl)).trans ai.out.blk,(h9.block gl (Nat.lt_of_lt_of_le bo y.out.size) (fun e=>d.out.rl e.symm)).trans (y.out.block gl bo)⟩
     have b0:Hid (s.alloc (.cells #[.int .i64 (at':Int)] 3)=Vq):=ar;clear ar;go_wp2_with (first|(go_at_call 154;refine bg.out.mono ?_;rintro e w4 ⟨⟨i,b,rfl,H⟩,rfl⟩;have a6:b=false:=(by rw[H.2.2.2];exact M.out);subst a6;have a2:Hid (Jx W (at':Int) i false):=H;clear H)|(go_at_call 156;rw[b0.out];refine(be.out i a2.out).mono ?_;rintro e K ⟨a9,r,rfl,D,ba,ax⟩;obtain⟨N2,bf⟩:∃ n,Hid ((W.take i++[(at':Int)]++W.drop i).length=n):=⟨_,(rfl:(W.take i++[(at':Int)]++W.drop i).length=_)⟩;rw[bf.out]at D ax |-;obtain⟨t9,l9⟩:=bx.out K ba;have c7:K.cell? (OI g 7)=some (.slice wa W.length wc):=(by rw[Lib.cell_of_heap t9];rfl);have f7:K.frozen? (OI g 7)=false:=(by simp[World.frozen?,t9])));have ay:=Uy D t9 Ov;have bd:(Value.slice a9 N2 r).ownBlock≠some gl:=by
      obtain⟨cs,q1,-⟩:=L.out.blk;exact Uy D (l9.trans q1) Ov
     have ap:∀ k,k≠g->(K.setCell (OI g 7) (.slice a9 N2 r)).heap[k]? = K.heap[k]?:=fun k hk=>by simp[World.setCell,Array.getElem?_modify,Ne.symm hk]
     have b8:(K.setCell (OI g 7) (.slice a9 N2 r)).heap[g]? = some (.cells #[.slice ca c.length cc,.string f.name,pv,.int .i64 f.result,.int .i64 f.slots,.slice ia f.ins.length ic,.slice (some (OI gl 0)) f.ins.length lc,.slice a9 N2 r] 148 (0,0)):=(by simp[World.setCell,Array.getElem?_modify,t9]);have b4:Ce gl (K.setCell (OI g 7) (.slice a9 N2 r)) (X.set at' J):=by
      obtain⟨cs,q1,q2⟩:=L.out.blk;exact⟨cs,((ap gl (Ne.symm au)).trans l9).trans q1,q2⟩
     have b6:(K.setCell (OI g 7) (.slice a9 N2 r)).ownsRow B 3 1 (.slice a9 N2 r) N2 (Ar (W.take i++[(at':Int)]++W.drop i)):=It D (fun k hk=>ap k (fun e=>ay (by rw[hk,e])));have bj:Below B w Vq:=A.out.1.trans (y.out.mono A.out.2);have b3:Below B w K:=C0 bj ba (Nat.le_trans A.out.2 y.out.size) (fun k hk=>Bu aw.out hk);have bi:Below B w (K.setCell (OI g 7) (.slice a9 N2 r)):=b3.setCell (p:=(OI g 7)) d.out.gB _;have bp:(W.take i++[(at':Int)]++W.drop i).length<=W.length+1:=OD;have hN:=bf.out;first|go_end0|skip
     subst hN;exact⟨W.take i++[(at':Int)]++W.drop i,a9,r,by first|rfl|simp,⟨d.out.gB,d.out.glB,d.out.ne,Nat.le_trans d.out.size bi.size,⟨b8⟩,b4,by rw[List.length_set];exact d.out.len,b6,ay,bd⟩,bi,Qas az.out a2.out,bp,fun v=>⟨fun h=>by
      rcases(Ut W (at':Int) i v).1 h with h|h
      ·exact .inl h
      ·exact .inr ⟨h,bw.out⟩,fun h=>(Ut W (at':Int) i v).2 (by
      rcases h with h|⟨h,_⟩
      ·exact .inl h
      ·exact .inr h)⟩,⟨fun k hk hkg hkl hko=>((ap k hkg).trans (ba.block k (Nat.lt_of_lt_of_le hk (Nat.le_trans A.out.1.size y.out.size)) (fun e=>hko e.symm))).trans ((y.out.block k (Nat.lt_of_lt_of_le hk A.out.1.size)).trans (af.out k hk hkl)),fun k h hk=>by
      rcases ax with e|e
      ·exact e.symm.trans h
      ·rw[e]at h
       injection h with h
       have:=Nat.le_trans A.out.1.size y.out.size
       omega⟩⟩
theorem Yu (B g gl:Nat) (c:List Af) (f:Af) (_hil:f.ins.length<=50000) (ca ia:Option Addr) (cc ic lc:Nat) (pv:Value) (X:List Am) (W:List Int) (wa:Option Addr) (wc:Nat) (w:World) (hS:Ei B g gl c f ca ia cc ic lc pv X W wa wc w) (at':Nat) (hat:at'=f.ins.length) (b:Am) :
  Calls Tryz.prog 127 #[.pointer (some (OI g 0)),.int .i64 (at':Int),H6 b] w fun e w'=>e = .returned (.tuple #[])/\Ei B g gl c f ca ia cc ic lc pv X W wa wc w'/\OH w w':=by
 rw[Hh];obtain⟨k,a⟩:∃ x,D5 b=x:=⟨_,rfl⟩;obtain⟨l,d⟩:∃ x,Eu b=x:=⟨_,rfl⟩;obtain⟨m,h⟩:∃ x,Et b=x:=⟨_,rfl⟩;rw[a,d,h];obtain⟨o,n⟩:∃ Y,w.alloc (.cells #[.int .i64 k,.string l,.string m] 150)=Y:=⟨_,rfl⟩;have i:OH w o:=by rw[<- n];exact Ao w _
 obtain⟨-,-,-,-,-,q,r,s⟩:=(hS.tr.below i).cells;have p:((at':Int) == (f.ins.length:Int))=true:=by rw[hat];simp
 have j:Hid (Ei B g gl c f ca ia cc ic lc pv X W wa wc w):=hS;clear hS hat a d h;go_enter Tryz.func127,Tryz.ntmps127;go_wp2_with fail;exact bodyPost_ret (v:=.tuple #[]) (by simp[results,Tryz.results127,go_sem]) rfl ⟨rfl,j.out.below i,i⟩
theorem Ei.leftIn {B g gl:Nat} {c:List Af} {f:Af} {ca ia:Option Addr} {cc ic lc:Nat} {pv:Value} {X:List Am} {W:List Int} {wa:Option Addr} {wc:Nat} {w:World} (h:Ei B g gl c f ca ia cc ic lc pv X W wa wc w) (hI:Ba B w (.slice ia f.ins.length ic) f.ins) (hC:Al B w (.slice ca c.length cc) c) (hT:B3 w) (hW:Cw w) (at':Nat):Hg c f at' ca ia cc ic lc gl g X pv (.slice wa W.length wc) w :=
 ⟨h.tr,h.lays,Ba.mono hI h.size,Al.mono hC h.size,hT,hW⟩
theorem Qe4 (U:World) (st:Int) (a b:Value):Sem.run Tryz.prog (Instr.field 150 (.agg #[.int .i64 st,a,b]) 0) U = .ok (.int .i64 st) U:=by
 simp[Instr.field,run_underlying Tryz.underlying150,go_sem,asAgg]
def Pz (c:List Af) (f:Af) (X:List Am) (w:World) (e:Ending) (w':World):Prop :=
 ((∃ u:Nat,u < f.ins.length/\e = .returned (.int .i64 (u:Int))/\B0 c f X u=true/\∀ j,j < u->B0 c f X j=false)\/(e = .returned (.int .i64 (-1))/\∀ j,j < f.ins.length->B0 c f X j=false))/\OH w w'
theorem Yx (B g gl:Nat) (c:List Af) (f:Af) (hR:Kl c f) (ca ia:Option Addr) (cc ic lc:Nat) (pv:Value) (X:List Am) (W:List Int) (wa:Option Addr) (wc:Nat) (w:World) (hS:Ei B g gl c f ca ia cc ic lc pv X W wa wc w) (hI:Ba B w (.slice ia f.ins.length ic) f.ins) (hC:Al B w (.slice ca c.length cc) c) (hT:B3 w) (hW:Cw w) (hfine:∀ u,Dn (Ai X u)) (hlens:∀ u,Dv f.slots.toNat (Ai X u)) :
  Calls Tryz.prog 97 #[.pointer (some (OI g 0))] w (Pz c f X w):=by
 have A:Hid (∀ U at',OH w U->Hg c f at' ca ia cc ic lc gl g X pv (.slice wa W.length wc) U):=fun U at' r=>(hS.leftIn hI hC hT hW at').below r
 have D:Hid (X.length=f.ins.length):=hS.len;have S:=hR.il;have R:Hid (Kl c f):=hR;have H:Hid (∀ u,Dn (Ai X u)):=hfine;have I:Hid (∀ u,Dv f.slots.toNat (Ai X u)):=hlens;obtain⟨-,-,-,-,-,-,u6,-⟩:=hS.tr.cells;clear hS hI hC hT hW hfine hlens hR;have M:∀ (U:World) (st:Int) (a b:Value),Sem.run Tryz.prog (Instr.field 150 (.agg #[.int .i64 st,a,b]) 0) U = .ok (.int .i64 st) U:=Qe4;go_enter Tryz.func97,Tryz.ntmps97;go_wp2_with fail;go_loopw [10] (fun t wr => ∃ u:Nat,u<=f.ins.length/\t = .int .i64 (u:Int)/\OH w wr/\Hid (∀ j,j < u->B0 c f X j=false)) (fun t _=>f.ins.length - (intOf t).toNat);case atStart=>exact⟨0,by omega,rfl,Below.refl _ _,fun j h=>Ou⟩
 case round =>
  obtain⟨u,Z,rfl,n,G⟩:=hrel;by_cases hlt:u < f.ins.length
  ·have F:(u:Int) < (f.ins.length:Int):=Ou;have o:u < X.length:=(by rw[D.out];exact hlt);obtain⟨N,O,P⟩:=(A.out wr u n).lays.cells u o;obtain⟨d,p⟩:∃ d,Hid (X[u]'o=d):=⟨_,(rfl:X[u]'o=_)⟩;rw[p.out]at N O P;have m:Hid (Ai X u=d):=by
    rw[Hid,Ai,List.getD_eq_getElem?_getD,List.getElem?_eq_getElem o];exact p.out
   obtain⟨U,r⟩:∃ U,wr.alloc (.cells #[.int .i64 (D5 d),.string (Eu d),.string (Et d)] 150)=U:=⟨_,rfl⟩;have i:OH w U:=(by rw[<- r];exact n.alloc n.size _);have V:U.cell? (OK wr 0)=some (.int .i64 (D5 d)):=by
    have h:U.heap[wr.heap.size]? = some (.cells #[.int .i64 (D5 d),.string (Eu d),.string (Et d)] 150):=(by rw[<- r];exact Ae _ _);rw[Lib.cell_of_heap h];rfl
   obtain⟨Q,l⟩:∃ x,D5 d=x:=⟨_,rfl⟩;obtain⟨s1,v⟩:∃ x,Eu d=x:=⟨_,rfl⟩;obtain⟨s2,y⟩:∃ x,Et d=x:=⟨_,rfl⟩;rw[l]at N V r;rw[v]at O r;rw[y]at P r;by_cases hn:d = .none
   ·have T:(Q != 0)=false:=(by rw[<- l,hn];rfl);have q:Hid (∀ j,j < u+1->B0 c f X j=false):=fun j hj=>by
     by_cases e:j=u
     ·subst e;unfold B0;rw[m.out,hn];simp
     ·exact G.out j Ou
    clear l v y hn;go_wp2_with fail;go_roundw;case rel=>exact⟨u+1,by omega,by go_num,i,q⟩
    case measure=>simp[intOf];omega
   ·have T:(Q != 0)=true:=by
     rw[<- l];cases d with
     | none=>exact(hn rfl).elim
     | known _ _=>rfl
     | clash=>rfl
    obtain⟨K,L⟩:∃ K,Hid (Cq c f u d=K):=⟨_,(rfl:Cq c f u d=_)⟩;have k:Hid (Calls Tryz.prog 128 #[.pointer (some (OI g 0)),.int .i64 (u:Int)] U fun e w'=>e = .returned (.agg #[.int .i64 (D5 K),.string (Eu K),.string (Et K)])/\OH U w'):=by
     have h:=Sf c f R.out u hlt X D.out d p.out hn (by rw[<- m.out];exact H.out u) (by rw[<- m.out];exact I.out u) ca ia cc ic pv _ lc gl g U (A.out U u i);rw[L.out,Hh]at h;exact h
    have C:Hid (B0 c f X u=decide (K = .clash)):=by
     rw[Hid,B0,m.out,L.out];simp[hn]
    clear l v y hn;by_cases hk:K = .clash
    ·have J:(D5 K == 2)=true:=(by rw[hk];rfl);have E:Hid (B0 c f X u=true):=(by rw[Hid,C.out];simp[hk]);clear hk;go_wp2_with (first|(go_at_call 128;refine k.out.mono ?_;rintro e Y ⟨rfl,s⟩));go_ret;exact⟨.inl ⟨u,hlt,rfl,E.out,G.out⟩,i.trans (s.mono i.size)⟩
    ·have J:(D5 K == 2)=false:=by cases K <;> first|rfl|exact(hk rfl).elim
     have q:Hid (∀ j,j < u+1->B0 c f X j=false):=fun j hj=>by
      by_cases e:j=u
      ·subst e;rw[C.out];simp[hk]
      ·exact G.out j Ou
     clear hk;go_wp2_with (first|(go_at_call 128;refine k.out.mono ?_;rintro e Y ⟨rfl,s⟩));go_roundw;case rel=>exact⟨u+1,by omega,by go_num,i.trans (s.mono i.size),q⟩
     case measure=>simp[intOf];omega
  ·have F:¬ (u:Int) < (f.ins.length:Int):=Ou;have z:Hid (∀ j,j < f.ins.length->B0 c f X j=false):=fun j hj=>G.out j Ou
   go_wp2_with fail;go_ret;exact⟨.inr ⟨rfl,z.out⟩,n⟩
theorem Up {a b:Am} (h:Dl a b) (ha:a ≠ .none):b ≠ .none:=by
 intro e;subst e;cases a with
 | none=>exact ha rfl
 | known s k=>exact h
 | clash=>exact h
theorem Oz {W:List Int} (h:Fa W):W.Nodup:=by
 rw[List.nodup_iff_pairwise_ne,List.pairwise_iff_getElem];intro i j b c a e;have:=h i j b c a;omega
theorem Qat {W W':List Int} (h:Fa W) (h':Fa W') (hm:∀ v,v ∈ W' ↔ v ∈ W):W'.length=W.length :=
 ((List.perm_ext_iff_of_nodup (Oz h') (Oz h)).2 hm).length_eq
structure P4 (Z:Dp) (X:List Am) (W:List Int):Prop where
 low:H5 Z X
 first:0 < Z.n->Dl Z.first (Ai X 0)
 work:∀ v ∈ W,∃ u:Nat,v=(u:Int)/\u < Z.n/\Ai X u ≠ .none
 rest:∀ u,u < Z.n->(u:Int) ∉ W->Ai X u ≠ .none->∀ v ∈ Z.goes u,v < Z.n->Dl (Z.left u (Ai X u)) (Ai X v)
structure M8 (Z:Dp) (X:List Am) (W:List Int) (i:Nat) (b:Am) (gl:List Nat) (k:Nat):Prop where
 low:H5 Z X
 first:0 < Z.n->Dl Z.first (Ai X 0)
 work:∀ v ∈ W,∃ u:Nat,v=(u:Int)/\u < Z.n/\Ai X u ≠ .none
 rest:∀ u,u < Z.n->u≠i->(u:Int) ∉ W->Ai X u ≠ .none->∀ v ∈ Z.goes u,v < Z.n->Dl (Z.left u (Ai X u)) (Ai X v)
 here:(i:Int) ∉ W->b=Z.left i (Ai X i)/\∀ j (hj:j < gl.length),j < k->gl[j] < Z.n->Dl b (Ai X gl[j])
 blow:∀ v ∈ gl,v < Z.n->∀ Y,J4 Z Y->Dl b (Ai Y v)
 blen:Dv Z.m b
def Kw (Z:Dp) (X:List Am) (W:List Int):Nat:=2 * (Z.n * (Z.m+2) - I6 Z.m X)+W.length
theorem P4.fix {Z:Dp} {X:List Am} (h:P4 Z X []):H5 Z X/\J4 Z X :=
 ⟨h.low,h.low.size,fun u hu hn=>h.rest u hu OB hn,h.first⟩
theorem Pl (n u:Nat):Ai (List.replicate n .none) u = .none:=by
 unfold Ai;rw[List.getD_eq_getElem?_getD,List.getElem?_replicate];by_cases e:u < n <;> simp[e]
theorem P4.start (Z:Dp) (hf:Z.first ≠ .none) (hn:0 < Z.n) {W:List Int} (hW:∀ v,v ∈ W ↔ v=0):P4 Z ((List.replicate Z.n .none).set 0 (Bb .none Z.first)) W:=by
 have d:=Pl Z.n 0;have c:=(H5.start Z).come 0 hn Z.first Z.flen (fun Y hY=>hY.first hn)
 rw[d]at c;have a:0 < (List.replicate Z.n Am.none).length:=by simpa using hn
 have b:Dl Z.first (Bb .none Z.first):=Lx (m:=Z.m) trivial Z.flen
 refine⟨c,fun _ => ?_,fun v hv=>⟨0,by simpa using (hW v).1 hv,hn, ?_⟩,fun u hu hnw hun => ?_⟩
 ·rw[Fj _ _ _ _ a,if_pos rfl];exact b
 ·rw[Fj _ _ _ _ a,if_pos rfl];exact Up b hf
 ·by_cases e:u=0
  ·subst e;exact absurd ((hW _).2 OB) hnw
  ·rw[Fj _ _ _ _ a,if_neg e,Pl]at hun;exact(hun rfl).elim
theorem P4.pop {Z:Dp} {X:List Am} {W:List Int} {i:Nat} (h:P4 Z X (W++[(i:Int)])):i < Z.n/\Ai X i ≠ .none/\M8 Z X W i (Z.left i (Ai X i)) (Z.goes i) 0:=by
 obtain⟨u,e,c,b⟩:=h.work (i:Int) OB;have d:u=i:=Ou
 subst d;refine⟨c,b,h.low,h.first,fun v hv=>h.work v (List.mem_append_left _ hv),fun x hx hxi hxw=>h.rest x hx (fun a => ?_),fun _=>⟨rfl,fun j hj hk=>Ou⟩,fun v hv hvn Y hY=>h.low.leaves u c b v hvn hv Y hY,Z.keep u _ (h.low.lens u)⟩;rcases List.mem_append.1 a with a|a
 ·exact hxw a
 ·rw[List.mem_singleton]at a;exact hxi Ou
theorem M8.done {Z:Dp} {X:List Am} {W:List Int} {i:Nat} {b:Am} {k:Nat} (h:M8 Z X W i b (Z.goes i) k) (hk:(Z.goes i).length<=k):P4 Z X W:=by
 refine⟨h.low,h.first,h.work,fun u hu hw hn v hv hvn => ?_⟩;by_cases e:u=i
 ·subst e;obtain⟨c,a⟩:=h.here hw;obtain⟨j,d,rfl⟩:=List.getElem_of_mem hv;rw[<- c];exact a j d Ou hvn
 ·exact h.rest u hu e hw hn v hv hvn
theorem M8.skip {Z:Dp} {X:List Am} {W:List Int} {i:Nat} {b:Am} {gl:List Nat} {k:Nat} (h:M8 Z X W i b gl k) (hk:k < gl.length) (hv:¬ gl[k] < Z.n):M8 Z X W i b gl (k+1) :=
 ⟨h.low,h.first,h.work,h.rest,fun hw=>⟨(h.here hw).1,fun j hj hjk hjn=>by
  by_cases e:j=k
  ·subst e;exact(hv hjn).elim
  ·exact(h.here hw).2 j hj Ou hjn⟩,h.blow,h.blen⟩
theorem Qe6 (X:List Am) (v:Nat) (hv:v < X.length):X.set v (Ai X v)=X:=by
 unfold Ai;rw[List.getD_eq_getElem?_getD,List.getElem?_eq_getElem hv];exact List.set_getElem_self hv
theorem M8.step {Z:Dp} {X:List Am} {W W':List Int} {i:Nat} {b:Am} {gl:List Nat} {k:Nat} (h:M8 Z X W i b gl k) (hk:k < gl.length) (a:gl[k] < Z.n) (hbn:b ≠ .none) (hd:Fa W) (hd':Fa W') (hl:W'.length<=W.length+1)
  (hW:∀ v,v ∈ W' ↔ v ∈ W\/(v=(gl[k]:Int)/\Bb (Ai X gl[k]) b≠Ai X gl[k])) :
  M8 Z (X.set gl[k] (Bb (Ai X gl[k]) b)) W' i b gl (k+1)/\Kw Z (X.set gl[k] (Bb (Ai X gl[k]) b)) W'<=Kw Z X W:=by
 have c:gl[k] < X.length:=by rw[h.low.size];exact a
 have o:=Qa (h.low.lens gl[k]) h.blen;have g:=Lx (h.low.lens gl[k]) h.blen;by_cases he:Bb (Ai X gl[k]) b=Ai X gl[k]
 ·have q:∀ v,v ∈ W' ↔ v ∈ W:=fun v=>by rw[hW v];simp[he]
  rw[he,Qe6 X _ c];rw[he]at g;refine⟨⟨h.low,h.first,fun v a=>h.work v ((q v).1 a),fun u l hui hw=>h.rest u l hui (fun x=>hw ((q _).2 x)),fun hw => ?_,h.blow,h.blen⟩,by unfold Kw;rw[Qat hd hd' q];exact Nat.le_refl _⟩;obtain⟨s,t⟩:=h.here (fun x=>hw ((q _).2 x));refine⟨s,fun j hj hjk hjn => ?_⟩;by_cases e:j=k
  ·subst e;exact g
  ·exact t j hj Ou hjn
 ·have d:=h.low.come gl[k] a b h.blen (h.blow gl[k] (List.getElem_mem hk) a);have B:=(Nr (h.low.lens gl[k]) (Nu (h.low.lens gl[k]) h.blen) o).2 (fun e=>he e.symm);have A:=Ps Z.m X gl[k] (Bb (Ai X gl[k]) b) c;have p:=Qy Z.m _ d.lens;rw[d.size]at p;have m:∀ u,Dl (Ai X u) (Ai (X.set gl[k] (Bb (Ai X gl[k]) b)) u):=fun u=>by
   rw[Fj _ _ _ _ c];by_cases e:u=gl[k]
   ·rw[if_pos e,e];exact o
   ·rw[if_neg e];exact Dl.refl _
  have y:(gl[k]:Int) ∈ W':=(hW _).2 (.inr ⟨rfl,he⟩);have z:∀ u:Nat,(u:Int) ∉ W'->u≠gl[k]:=fun u l e=>l (by rw[e];exact y)
  have f:∀ u:Nat,(u:Int) ∉ W'->Ai (X.set gl[k] (Bb (Ai X gl[k]) b)) u=Ai X u:=fun u l=>by rw[Fj _ _ _ _ c,if_neg (z u l)]
  have n:∀ v,v ∉ W'->v ∉ W:=fun v a hx=>a ((hW v).2 (.inl hx))
  refine⟨⟨d,fun hz=>(h.first hz).trans (m 0),fun v a => ?_,fun u l hui hw r v a hvn => ?_,fun hw => ?_,h.blow,h.blen⟩,by unfold Kw;omega⟩
  ·rcases(hW v).1 a with a|⟨rfl,_⟩
   ·obtain⟨u,e,l,r⟩:=h.work v a;exact⟨u,e,l,Up (m u) r⟩
   ·exact⟨gl[k],rfl,by assumption,by rw[Fj _ _ _ _ c,if_pos rfl];exact Up g hbn⟩
  ·rw[f u hw]at r |-
   exact(h.rest u l hui (n _ hw) r v a hvn).trans (m v)
  ·obtain⟨s,t⟩:=h.here (n _ hw);refine⟨by rw[f i hw];exact s,fun j hj hjk hjn => ?_⟩;by_cases e:j=k
   ·subst e;rw[Fj _ _ _ _ c,if_pos rfl];exact g
   ·exact(t j hj Ou hjn).trans (m _)
theorem Tryz.infoLay : (Tryz.prog.info? 150).map (fun i=>(i.zero,i.size,i.bytes))=some (some (.agg #[.int .i64 0,.string ⟨#[]⟩,.string ⟨#[]⟩]),3,40):=OA
theorem Qbp : ∃ i,Tryz.prog.info? 150=some i/\i.zero=some (.agg #[.int .i64 0,.string ⟨#[]⟩,.string ⟨#[]⟩])/\i.size=3/\i.bytes=40:=by
 have h:=Tryz.infoLay;cases hi:Tryz.prog.info? 150 with
 | none=>rw[hi]at h;simp at h
 | some i=>rw[hi]at h;simp at h;exact⟨i,rfl,h.1,h.2.1,h.2.2⟩
theorem Tryz.infoU8 : (Tryz.prog.info? 5).map (fun i=>(i.zero,i.size,i.bytes))=some (some (.int .u8 0),1,1):=OA
theorem Qdu : ∃ i,Tryz.prog.info? 5=some i/\i.zero=some (.int .u8 0)/\i.size=1/\i.bytes=1:=by
 have h:=Tryz.infoU8;cases hi:Tryz.prog.info? 5 with
 | none=>rw[hi]at h;simp at h
 | some i=>rw[hi]at h;simp at h;exact⟨i,rfl,h.1,h.2.1,h.2.2⟩
theorem Nx (n u j:Nat) (hu:u < n) (hj:j < 3):(madeCells (Value.agg #[.int .i64 0,.string ⟨#[]⟩,.string ⟨#[]⟩]).cells (n * 3))[u * 3+j]? = (#[Value.int .i64 0,.string ⟨#[]⟩,.string ⟨#[]⟩]:Array Value)[j]?:=by
 have b:u * 3+j < n * 3:=Ou
 have c:(u * 3+j) % 3=j:=Ou
 have d:(Value.agg #[.int .i64 0,.string ⟨#[]⟩,.string ⟨#[]⟩]).cells = #[Value.int .i64 0,.string ⟨#[]⟩,.string ⟨#[]⟩]:=rfl;rw[d];unfold madeCells;simp only[Array.getElem?_map,List.size_toArray,List.length_cons,List.length_nil];rw[Array.getElem?_eq_getElem (by simpa using b)];simp only[Array.getElem_range,Option.map_some,c];have a:j=0\/j=1\/j=2:=Ou
 rcases a with rfl|rfl|rfl <;> rfl
theorem Ce.made {W:World} {g n:Nat} (h:W.heap[g]? = some (.cells (madeCells (Value.agg #[.int .i64 0,.string ⟨#[]⟩,.string ⟨#[]⟩]).cells (n * 3)) 150 (0,0))):Ce g W (List.replicate n .none):=by
 refine⟨⟨_,h,by rw[List.length_replicate,size_madeCells],fun u hu => ?_⟩⟩;rw[List.length_replicate]at hu;rw[List.getElem_replicate];refine⟨?_, ?_, ?_⟩
 ·have:=Nx n u 0 hu Ou;exact this
 ·rw[Nx n u 1 hu Ou];rfl
 ·rw[Nx n u 2 hu Ou];rfl
theorem Qbs (n j:Nat) (hj:j < n):(madeCells (Value.int .u8 0).cells (n * 1))[j]? = some (.int .u8 0):=by
 have a:(Value.int .u8 0).cells = #[Value.int .u8 0]:=rfl;rw[a];unfold madeCells;simp only[Array.getElem?_map,List.size_toArray,List.length_cons,List.length_nil];rw[Array.getElem?_eq_getElem (by simpa using hj)];simp only[Array.getElem_range,Option.map_some,Nat.zero_add,Nat.mod_one];rfl
theorem Ux {w:World} {B:Nat} {wa:Option Addr} {wc:Nat} {W:List Int} {z:Int} (h:w.ownsRow B 3 1 (.slice wa (W++[z]).length wc) (W++[z]).length (Ar (W++[z]))):w.ownsRow B 3 1 (.slice wa W.length wc) W.length (Ar W)/\(∃ k,wa=some (OI k 0))/\W.length+1<=wc:=by
 obtain⟨o,b⟩:=h;rcases b with⟨b,j⟩|⟨g,i,a,b,l,m,d,n,hs,f⟩
 ·simp at j
 ·injection b with e1 e2 e3;subst e1 e3;rw[List.length_append,List.length_singleton]at d f;refine⟨⟨by simp[Ar],.inr ⟨g,wc,a,rfl,l,m,by omega,n,hs, ?_⟩⟩,⟨g,rfl⟩,d⟩;have c:(a.toList.take ((W.length+1) * 1)).take (W.length * 1)=Ar W:=by
   rw[f,Le,Nat.mul_one,show W.length=(Ar W).length by simp[Ar],List.take_left]
  rw[List.take_take,Nat.min_eq_left Ou]at c;exact c
theorem Ud {W:List Int} (h:Fa W) (h0:0 < W.length):∀ j (hj:j < W.length),W[j]+(j:Int)<=W[0]
 | 0,_=>by simp
 | j+1,hj=>by
  have a:=Ud h h0 j Ou
  have b:=h j (j+1) Ou hj Ou
  omega
theorem Ue {W:List Int} {n:Nat} (h:Fa W) (hb:∀ v ∈ W,∃ u:Nat,v=(u:Int)/\u < n):W.length<=n:=by
 by_cases h0:W.length=0
 ·omega
 ·have b:=Ud h Ou (W.length - 1) Ou;obtain⟨u,e,c⟩:=hb _ (List.getElem_mem (l:=W) (n:=0) Ou);obtain⟨v,a,d⟩:=hb _ (List.getElem_mem (l:=W) (n:=W.length - 1) Ou);omega
theorem Qar {W:List Int} {z:Int} (h:Fa (W++[z])):Fa W:=fun i j h1 h2 hij=>by
 have:=h i j OD OD hij
 rwa [List.getElem_append_left h1,List.getElem_append_left h2]at this
theorem Yt (c:List Af) (f:Af) (u:Nat) (a:Am):Cq c f u a ≠ .none:=by
 cases a with
 | none=>simp[Cq]
 | clash=>simp[Cq]
 | known s k =>
  show Bi _ _ _ _ _ _≠_
  unfold Bi;repeat' split
  all_goals simp
theorem T7 {c:List Af} {f:Af} (hR:Kl c f) {u:Nat} (hu:u < f.ins.length) {a:Am} (hf:Dn a) (hl:Dv f.slots.toNat a):Dn (Cq c f u a):=by
 cases a with
 | none=>trivial
 | clash=>trivial
 | known s k =>
  have b:=Si (s:=s) (k:=k) hR.fns hR.res (hR.ok u hu) hl hf.2.1;have h:=Uq (at':=u) hR.fns hu b hf;show Dn (Bi c f (f.ins.getD u C3) u s k)
  rw[List.getD_eq_getElem?_getD,List.getElem?_eq_getElem hu];exact h
theorem Jr {a:Am} (h:Dn a):Hi a:=by
 cases a with
 | none=>trivial
 | clash=>trivial
 | known s k=>exact⟨h.1,fun t ht=>⟨by have:=(h.2.1 t ht).1;omega,(h.2.1 t ht).2⟩⟩
theorem Rz {X:List Am} {v:Nat} {a:Am} (hX:∀ u,Dn (Ai X u)) (ha:Dn a) (hv:v < X.length) (u:Nat):Dn (Ai (X.set v a) u):=by
 rw[Fj _ _ _ _ hv];by_cases e:u=v
 ·rw[if_pos e];exact ha
 ·rw[if_neg e];exact hX u
theorem Ce.uniq {g:Nat} {W:World} {X Y:List Am} (h:Ce g W X) (k:Ce g W Y) (hX:∀ u,Dn (Ai X u)) (hY:∀ u,Dn (Ai Y u)):X=Y:=by
 obtain⟨x,r,z,s⟩:=h.blk;obtain⟨y,a,A,v⟩:=k.blk;rw[r]at a;injection a with a;injection a with a;subst a;have t:X.length=Y.length:=Ou
 refine List.ext_getElem t fun u h4 h5 => ?_
 obtain⟨l,m,n⟩:=s u h4;obtain⟨b,c,d⟩:=v u h5;rw[l]at b;rw[m]at c;rw[n]at d;have o:D5 X[u]=D5 Y[u]:=by simpa using b
 have p:Eu X[u]=Eu Y[u]:=by simpa using c
 have q:Et X[u]=Et Y[u]:=by simpa using d
 have i:=hX u;have j:=hY u;rw[Ir h4]at i;rw[Ir h5]at j;have f:=Se (Jr i) (Jr j);rw[o,p,q]at f;simpa using f
noncomputable def Uu (Z:Dp) (g gl:Nat) (w:World):Nat:=Classical.epsilon (fun k => ∃ (X:List Am) (W:List Int) (wa:Option Addr) (wc:Nat),Ce gl w X/\(∀ u,Dn (Ai X u))/\w.cell? (OI g 7)=some (.slice wa W.length wc)/\k=Kw Z X W)
theorem Ya {Z:Dp} {g gl:Nat} {w:World} {X:List Am} {W:List Int} {wa:Option Addr} {wc:Nat} (h1:Ce gl w X) (h2:∀ u,Dn (Ai X u)) (h3:w.cell? (OI g 7)=some (.slice wa W.length wc)):Uu Z g gl w=Kw Z X W:=by
 obtain⟨Y,V,f,h,b,c,a,d⟩:=Classical.epsilon_spec (p:=fun k => ∃ (X:List Am) (W:List Int) (wa:Option Addr) (wc:Nat),Ce gl w X/\(∀ u,Dn (Ai X u))/\w.cell? (OI g 7)=some (.slice wa W.length wc)/\k=Kw Z X W) ⟨_,X,W,wa,wc,h1,h2,h3,rfl⟩;unfold Uu;rw[d,<- h1.uniq b h2 c];rw[h3]at a;have e:W.length=V.length:=by simp at a;exact a.2.1
 unfold Kw;rw[e]
theorem Qda {c:List Af} {f:Af} (hR:Kl c f) {u:Nat} (hu:u < f.ins.length):∀ v ∈ A5 f.ins[u] u,v<=f.ins.length:=by
 intro v a;have d:=I4 (hR.ok u hu);have b:=d.2.2.2.2.2.2.2.1;unfold A5 at a;by_cases h1:f.ins[u].op=12\/f.ins[u].op=13
 ·rw[if_pos h1]at a;simp at a
 ·rw[if_neg h1]at a;by_cases h2:f.ins[u].op=10
  ·rw[if_pos h2]at a;have:=b (.inl h2);simp at a;omega
  ·rw[if_neg h2]at a;by_cases h3:f.ins[u].op=11
   ·rw[if_pos h3]at a;have:=b (.inr h3);simp at a;omega
   ·rw[if_neg h3]at a;simp at a;omega
theorem Yw {f:Af} (j:Nat):(B4 f).getD j 0=if j < f.params.length then f.params.getD j 0 else 0:=by
 unfold B4;rw[List.getD_eq_getElem?_getD,List.getElem?_append];by_cases e:j < f.params.length
 ·rw[if_pos e,if_pos e,List.getD_eq_getElem?_getD]
 ·rw[if_neg e,if_neg e,List.getElem?_replicate];split <;> rfl
theorem Ta {f:Af} (h:∀ t ∈ f.params,1<=t/\t<=10):F6 (B4 f):=by
 intro t b;unfold B4 at b;rcases List.mem_append.1 b with a|a
 ·have:=h t a;omega
 ·have:=List.eq_of_mem_replicate a;omega
theorem Ww (i:Az) (at':Nat) (h1:1<=i.op) (h16:i.op<=16) (hat:at'<=1048576) (ha:i.op=10\/i.op=11->0<=i.a) (w:World) (hT:B3 w) :
  Calls Tryz.prog 129 #[Aw i,.int .i64 (at':Int)] w fun e w' => ∃ v,e = .returned v/\Ac w'.heap.size w' v (Ct (A5 i at'))/\OH w w'/\∀ k,v.ownBlock=some k->w.heap.size<=k:=by
 obtain⟨y,a,n,b⟩:=i;simp only at h1 h16 ha;obtain⟨m,rfl⟩:∃ m:Nat,y=(m:Int):=⟨y.toNat,by omega⟩;have r:1<=m:=Ou
 have o:m<=16:=Ou
 unfold Aw;have A:wrap64 ((at':Int)+1)=(at':Int)+1:=IntWalk.wrap64_in _ Ou;obtain⟨c,j⟩:∃ Y,w.alloc (.cells #[.int .i64 (m:Int),.int .i64 a,.int .i64 n,.string b] 107)=Y:=⟨_,rfl⟩;have f:OH w c:=by rw[<- j];exact Ao w _
 have l:c.heap.size=w.heap.size+1:=by rw[<- j];exact World.size_alloc _ _
 have d:c.heap[w.heap.size]? = some (.cells #[.int .i64 (m:Int),.int .i64 a,.int .i64 n,.string b] 107):=by rw[<- j];exact Ae w _
 have s:c.cell? (OK w 0)=some (.int .i64 (m:Int)):=by rw[Lib.cell_of_heap d];rfl
 have t:c.cell? (OK w 1)=some (.int .i64 a):=by rw[Lib.cell_of_heap d];rfl
 have u:c.cell? (OK w 2)=some (.int .i64 n):=by rw[Lib.cell_of_heap d];rfl
 have x:c.cell? (OK w 3)=some (.string b):=by rw[Lib.cell_of_heap d];rfl
 clear d;have q:c.cell? (OI 0 (m * 5+4))=some (.int .i64 (B5 m).2.2.2.2):=(f.cell (p:=(OI _ _)) hT.lt).trans (hT.goes m r o);clear hT;have z:(m:Int) < 17:=Ou
 by_cases h10:m=10
 ·have g:Hid (A5 ⟨(m:Int),a,n,b⟩ at'=[a.toNat]):=by rw[Hid,h10];simp[A5]
  have e:(B5 m).2.2.2.2=1:=by rw[h10];rfl
  rw[e]at q;obtain⟨k,rfl⟩:∃ k:Nat,a=(k:Int):=⟨a.toNat,by have:=ha (.inl Ou);omega⟩;rw[g.out];clear h10 ha e;go_enter Tryz.func129,Tryz.ntmps129;go_wp2_with fail;go_ret;exact⟨.slice (some (OK c 0)) 1 1,by simp[l],Ac.newZ (Z:=c) (hs:=[(k:Int)]) _ _ rfl,Ab f _,fun k hk=>(by have e:c.heap.size=k:=(by simpa[Value.ownBlock]using hk);omega)⟩
 ·by_cases h11:m=11
  ·have g:Hid (A5 ⟨(m:Int),a,n,b⟩ at'=[a.toNat,at'+1]):=(by rw[Hid,h11];simp[A5]);have e:(B5 m).2.2.2.2=2:=(by rw[h11];rfl);rw[e]at q;obtain⟨k,rfl⟩:∃ k:Nat,a=(k:Int):=⟨a.toNat,by have:=ha (.inr Ou);omega⟩;rw[g.out];clear h10 h11 ha e;go_enter Tryz.func129,Tryz.ntmps129;go_wp2_with fail;go_ret;exact⟨.slice (some (OK c 0)) 2 2,by simp[l],Ac.newZ (Z:=c) (hs:=[(k:Int),(at':Int)+1]) _ _ rfl,Ab f _,fun k hk=>(by have e:c.heap.size=k:=(by simpa[Value.ownBlock]using hk);omega)⟩
  ·by_cases h12:m=12\/m=13
   ·have g:Hid (A5 ⟨(m:Int),a,n,b⟩ at'=[]):=by
     rw[Hid];rcases h12 with h|h <;> (rw[h];simp[A5])
    have e:(B5 m).2.2.2.2=3:=by rcases h12 with h|h <;> (rw[h];rfl)
    rw[e]at q;rw[g.out];clear h10 h11 h12 ha e;go_enter Tryz.func129,Tryz.ntmps129;go_wp2_with fail;go_ret;exact⟨.slice none 0 0,rfl,⟨none,0,rfl,fun i hi=>by simp[Ct]at hi⟩,f,fun k hk=>by simp[Value.ownBlock]at hk⟩
   ·have g:Hid (A5 ⟨(m:Int),a,n,b⟩ at'=[at'+1]):=by
     rw[Hid];unfold A5;rw[if_neg OG,if_neg OG,if_neg OG]
    have e:(B5 m).2.2.2.2=0:=by
     have h:m=1\/m=2\/m=3\/m=4\/m=5\/m=6\/m=7\/m=8\/m=9\/m=14\/m=15\/m=16:=Ou;rcases h with h|h|h|h|h|h|h|h|h|h|h|h <;> (rw[h];rfl)
    rw[e]at q;rw[g.out];clear h10 h11 h12 ha e;go_enter Tryz.func129,Tryz.ntmps129;go_wp2_with fail;go_ret;exact⟨.slice (some (OK c 0)) 1 1,by simp[l],Ac.newZ (Z:=c) (hs:=[(at':Int)+1]) _ _ rfl,Ab f _,fun k hk=>(by have e:c.heap.size=k:=(by simpa[Value.ownBlock]using hk);omega)⟩
theorem Ei.pop {B g gl:Nat} {c:List Af} {f:Af} {ca ia:Option Addr} {cc ic lc:Nat} {pv:Value} {X:List Am} {W:List Int} {z:Int} {wa:Option Addr} {wc:Nat} {w:World} (h:Ei B g gl c f ca ia cc ic lc pv X (W++[z]) wa wc w):Ei B g gl c f ca ia cc ic lc pv X W wa wc (w.setCell (OI g 7) (.slice wa W.length wc)):=by
 obtain⟨m,⟨k,rfl⟩,p⟩:=Ux h.row;have a:∀ j,j≠g->(w.setCell (OI g 7) (.slice (some (OI k 0)) W.length wc)).heap[j]? = w.heap[j]?:=fun j hj=>by simp[World.setCell,Array.getElem?_modify,Ne.symm hj]
 have i:(w.setCell (OI g 7) (.slice (some (OI k 0)) W.length wc)).heap[g]? = some (.cells #[.slice ca c.length cc,.string f.name,pv,.int .i64 f.result,.int .i64 f.slots,.slice ia f.ins.length ic,.slice (some (OI gl 0)) f.ins.length lc,.slice (some (OI k 0)) W.length wc] 148 (0,0)):=by simp[World.setCell,Array.getElem?_modify,h.tr.blk]
 have b:k≠g:=fun e=>h.rg (by rw[e];rfl)
 have d:Ce gl (w.setCell (OI g 7) (.slice (some (OI k 0)) W.length wc)) X:=by
  obtain⟨l,n,o⟩:=h.lays.blk;exact⟨l,(a gl (Ne.symm h.ne)).trans n,o⟩
 refine⟨h.gB,h.glB,h.ne,by rw[World.size_setCell];exact h.size,⟨i⟩,d,h.len,It m (fun j hj=>a j (fun e=>b ?_)),fun e=>h.rg ?_,fun e=>h.rl ?_⟩
 ·have:k=j:=by simpa[Value.ownBlock]using hj
  omega
 ·simpa[Value.ownBlock]using e
 ·simpa[Value.ownBlock]using e
theorem Ei.last {B g gl:Nat} {c:List Af} {f:Af} {ca ia:Option Addr} {cc ic lc:Nat} {pv:Value} {X:List Am} {W:List Int} {z:Int} {wa:Option Addr} {wc:Nat} {w:World} (h:Ei B g gl c f ca ia cc ic lc pv X (W++[z]) wa wc w):∃ k,wa=some (OI k 0)/\W.length+1<=wc/\w.cell? (OI k W.length)=some (.int .i64 z)/\w.cell? (OI g 7)=some (.slice (some (OI k 0)) (W.length+1) wc)/\w.frozen? (OI g 7)=false:=by
 obtain⟨-,⟨k,rfl⟩,l⟩:=Ux h.row;have d:=h.tr.cells.2.2.2.2.2.2.2;rw[List.length_append,List.length_singleton]at d;refine⟨k,rfl,l, ?_,d,by simp[World.frozen?,h.tr.blk]⟩;rcases h.row.2 with⟨b,_⟩|⟨o,j,a,b,_,m,p,q,hs,n⟩
 ·simp at b
 ·injection b with e1;injection e1 with e1;injection e1 with e1;subst e1;rw[Lib.cell_of_heap m,<- Array.getElem?_toList];have i:(a.toList.take ((W++[z]).length * 1))[W.length]? = some (.int .i64 z):=by
   rw[n,Le,List.getElem?_append_right (by simp[Ar])];simp[Ar]
  rw[List.getElem?_take]at i;rwa [if_pos OB]at i
def Qf2 (B g gl:Nat) (c:List Af) (f:Af) (ca ia:Option Addr) (cc ic lc:Nat) (pv:Value) (V w:World):Prop :=
 ∃ (X:List Am) (W:List Int) (wa:Option Addr) (wc:Nat),Ei B g gl c f ca ia cc ic lc pv X W wa wc w/\P4 (Cc c f) X W/\Fa W/\(∀ u,Dn (Ai X u))/\Below B V w
structure P2 (B g gl:Nat) (c:List Af) (f:Af) (ca ia:Option Addr) (cc ic lc:Nat) (pv:Value) (V:World) (i:Nat) (b:Am) (G:List Nat) (v:Value) (bl:Nat) (M:Nat) (k:Nat) (X:List Am) (W:List Int) (wa:Option Addr) (wc:Nat) (w:World):Prop where
 st:Ei B g gl c f ca ia cc ic lc pv X W wa wc w
 wm:M8 (Cc c f) X W i b G k
 dn:Fa W
 fine:∀ u,Dn (Ai X u)
 since:Below B V w
 ms:Kw (Cc c f) X W+1<=M
 ints:Ac w.heap.size w v (Ct G)
 voff:∀ j,v.ownBlock=some j->j≠g/\j≠gl/\(Value.slice wa W.length wc).ownBlock≠some j
 left:w.heap[bl]? = some (.cells #[.int .i64 (D5 b),.string (Eu b),.string (Et b)] 150 (0,0))
 loff:bl≠g/\bl≠gl/\(Value.slice wa W.length wc).ownBlock≠some bl
theorem P2.skip {B g gl:Nat} {c:List Af} {f:Af} {ca ia:Option Addr} {cc ic lc:Nat} {pv:Value} {V:World} {i:Nat} {b:Am} {G:List Nat} {v:Value} {bl M k:Nat} {X:List Am} {W:List Int} {wa:Option Addr} {wc:Nat} {w:World} (h:P2 B g gl c f ca ia cc ic lc pv V i b G v bl M k X W wa wc w) (hk:k < G.length) (hto:¬ G[k] < f.ins.length) {w':World} (hb:OH w w'):P2 B g gl c f ca ia cc ic lc pv V i b G v bl M (k+1) X W wa wc w':=by
 have a:bl < w.heap.size:=(Array.getElem?_eq_some_iff.1 h.left).1;exact⟨h.st.below hb,h.wm.skip hk hto,h.dn,h.fine,h.since.trans (hb.mono h.st.size),h.ms,Ac.mono (h.ints.below hb) hb.size,h.voff,(hb.block bl a).trans h.left,h.loff⟩
theorem P2.step {B g gl:Nat} {c:List Af} {f:Af} {ca ia:Option Addr} {cc ic lc:Nat} {pv:Value} {V:World} {i:Nat} {b:Am} {G:List Nat} {v:Value} {bl M k:Nat} {X:List Am} {W:List Int} {wa:Option Addr} {wc:Nat} {w:World} (h:P2 B g gl c f ca ia cc ic lc pv V i b G v bl M k X W wa wc w) (hk:k < G.length) (hto:G[k] < f.ins.length) (hbn:b ≠ .none) (hbf:Dn b) {W':List Int} {wa':Option Addr} {wc':Nat} {w':World}
  (hS:Ei B g gl c f ca ia cc ic lc pv (X.set G[k] (Bb (Ai X G[k]) b)) W' wa' wc' w') (hB:Below B w w') (hd:Fa W') (hl:W'.length<=W.length+1) (hm:∀ z,z ∈ W' ↔ z ∈ W\/(z=(G[k]:Int)/\Bb (Ai X G[k]) b≠Ai X G[k])) (hfr:Qg0 g gl (Value.slice wa W.length wc).ownBlock (Value.slice wa' W'.length wc').ownBlock w w') :
  P2 B g gl c f ca ia cc ic lc pv V i b G v bl M (k+1) (X.set G[k] (Bb (Ai X G[k]) b)) W' wa' wc' w':=by
 have d:bl < w.heap.size:=(Array.getElem?_eq_some_iff.1 h.left).1;obtain⟨p,s⟩:=h.wm.step hk hto hbn h.dn hd hl hm;have l:∀ j,v.ownBlock=some j->j < w.heap.size:=fun j hj=>by
  obtain⟨a,m,rfl,r⟩:=h.ints;obtain⟨n,o,q,t,-⟩:=r k (by simpa[Ct]using hk);subst q;have:n=j:=by simpa[Value.ownBlock]using hj
  omega
 refine⟨hS,p,hd,Rz h.fine (Zj (h.fine _) hbf) (by rw[h.wm.low.size];exact hto),h.since.trans hB,by have:=h.ms;omega, ?_,fun j hj => ?_,(hfr.keep bl d h.loff.1 h.loff.2.1 h.loff.2.2).trans h.left,h.loff.1,h.loff.2.1,fun e=>h.loff.2.2 (hfr.own bl e d)⟩
 ·exact h.ints.keep (fun j hj=>hfr.keep j (l j hj) (h.voff j hj).1 (h.voff j hj).2.1 (h.voff j hj).2.2) hB.size
 ·exact⟨(h.voff j hj).1,(h.voff j hj).2.1,fun e=>(h.voff j hj).2.2 (hfr.own j e (l j hj))⟩
end Go.Proofs.YtahibkjkpmdhgaaGreatDoor
