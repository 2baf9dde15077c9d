import Derived.Test.YtfjkahdghhbpnaaGreatDoorKCfF
import Derived.Laws.StructEq
import Derived.Test.YtfjkahdghhbpnaaGreatDoorKCfL
import Derived.Test.YtfjkahdghhbpnaaGreatDoorKCfO
set_option maxRecDepth 100000
set_option maxHeartbeats 4000000
namespace Go.Proofs.YtfjkahdghhbpnaaGreatDoor
open Go.RowKit
theorem Qcc (a0 c0:Int) (a1 a2 c1 c2:ByteArray) (w:World):(Op.equalIn 10000 189 (.agg #[.int .i64 a0,.string a1,.string a2]) (.agg #[.int .i64 c0,.string c1,.string c2])).run Tryz.prog w = .ok (a0 == c0 && a1.toList == c1.toList && a2.toList == c2.toList) w:=by
 have c:=Tryz.underlying3
 have d:=Tryz.underlying9
 have a:Tryz.prog.underlying 189=some (.struct (Tryz.prog.fieldsOf 189)):=by kernel_rfl
 have b:Tryz.prog.stoodInHeld 189=false:=by kernel_rfl
 rw[show (10000:Nat)=9999+1 from rfl,run_equalIn_agg w 9999 189 _ _ a b]
 simp only[Program.fieldsOf,Tryz.underlying189]
 go_simp
 by_cases h1:a0=c0 <;> by_cases h2:a1.toList=c1.toList <;> by_cases h3:a2.toList=c2.toList <;> simp[h1,h2,h3]
theorem Ta (a b c x y z:Int) (w:World):(Op.equalIn 10000 102 (.agg #[.int .i64 a,.int .i64 b,.int .i64 c]) (.agg #[.int .i64 x,.int .i64 y,.int .i64 z])).run Tryz.prog w = .ok (a == x && b == y && c == z) w:=by
 have g:=Tryz.underlying3
 have d:Tryz.prog.underlying 102=some (.struct (Tryz.prog.fieldsOf 102)):=by kernel_rfl
 have f:Tryz.prog.stoodInHeld 102=false:=by kernel_rfl
 rw[show (10000:Nat)=9999+1 from rfl,run_equalIn_agg w 9999 102 _ _ d f]
 simp only[Program.fieldsOf,Tryz.underlying102]
 go_simp
 by_cases h1:a=x <;> by_cases h2:b=y <;> by_cases h3:c=z <;> simp[h1,h2,h3]
theorem Xa : Tryz.prog.eqGuardType Tryz.prog.depth 189=false:=by kernel_rfl
theorem Uz : Tryz.prog.eqGuardType Tryz.prog.depth 102=false:=by kernel_rfl
theorem Q9 {a b:Ap} (ha:Gp a) (hb:Gp b):(Eb a == Eb b && (E7 a).toList == (E7 b).toList && (E6 a).toList == (E6 b).toList)=decide (a=b):=by
 cases a with
 | none=>cases b <;> simp[Eb,E7,E6]
 | clash=>cases b <;> simp[Eb,E7,E6]
 | known s k =>
  cases b with
  | none=>simp[Eb]
  | clash=>simp[Eb]
  | known s' k' =>
   simp only[Eb,E7,E6,Ou ha.1 hb.1,Ou ha.2 hb.2]
   by_cases h1:s=s' <;> by_cases h2:k=k' <;> simp[h1,h2]
theorem Ci.store {g:Nat} {V:World} {X:List Ap} (h:Ci g V X) (u:Nat) (hu:u < X.length) (J:Ap):Ci g ((((V.setCell ⟨g,u * 3,none⟩ (.int .i64 (Eb J))).setCell ⟨g,u * 3+1,none⟩ (.string (E7 J))).setCell ⟨g,u * 3+2,none⟩ (.string (E6 J))).drew) (X.set u J):=by
 obtain⟨d,i,f,j⟩:=h.blk
 refine⟨((d.setIfInBounds (u * 3) (.int .i64 (Eb J))).setIfInBounds (u * 3+1) (.string (E7 J))).setIfInBounds (u * 3+2) (.string (E6 J)), ?_,by simp[f],fun v hv => ?_⟩
 ·show (((V.setCell ⟨g,u * 3,none⟩ (.int .i64 (Eb J))).setCell ⟨g,u * 3+1,none⟩ (.string (E7 J))).setCell ⟨g,u * 3+2,none⟩ (.string (E6 J))).heap[g]? = _
  simp[World.setCell,Array.getElem?_modify,i]
 ·rw[List.length_set]at hv
  have k:u * 3+2 < d.size:=by rw[f];omega
  by_cases e:v=u
  ·subst e
   simp only[List.getElem_set_self]
   refine⟨?_, ?_, ?_⟩
   ·rw[Array.getElem?_setIfInBounds,if_neg (by omega),Array.getElem?_setIfInBounds,if_neg (by omega),Array.getElem?_setIfInBounds,if_pos rfl,if_pos (by omega)]
   ·rw[Array.getElem?_setIfInBounds,if_neg (by omega),Array.getElem?_setIfInBounds,if_pos rfl,if_pos (by simp;omega)]
   ·rw[Array.getElem?_setIfInBounds,if_pos rfl,if_pos (by simp;omega)]
  ·rw[List.getElem_set_ne (fun h=>e h.symm)]
   obtain⟨a,b,c⟩:=j v hv
   refine⟨?_, ?_, ?_⟩
   ·rw[Array.getElem?_setIfInBounds,if_neg (by omega),Array.getElem?_setIfInBounds,if_neg (by omega),Array.getElem?_setIfInBounds,if_neg (by omega)];exact a
   ·rw[Array.getElem?_setIfInBounds,if_neg (by omega),Array.getElem?_setIfInBounds,if_neg (by omega),Array.getElem?_setIfInBounds,if_neg (by omega)];exact b
   ·rw[Array.getElem?_setIfInBounds,if_neg (by omega),Array.getElem?_setIfInBounds,if_neg (by omega),Array.getElem?_setIfInBounds,if_neg (by omega)];exact c
theorem Tl (W:List Int) (v:Int) (i:Nat) (x:Int):x ∈ W.take i++[v]++W.drop i ↔ x ∈ W\/x=v:=by
 have e:x ∈ W ↔ x ∈ W.take i\/x ∈ W.drop i:=by
  rw[<- List.mem_append,List.take_append_drop]
 simp only[List.mem_append,List.mem_singleton,e]
 constructor
 ·rintro((h|h)|h)
  ·exact .inl (.inl h)
  ·exact .inr h
  ·exact .inl (.inr h)
 ·rintro((h|h)|h)
  ·exact .inl (.inl h)
  ·exact .inr h
  ·exact .inl (.inr h)
theorem Yw {W:List Int} {v:Int} {i:Nat} (hd:Ej W) (hs:Iu W v i false):Ej (W.take i++[v]++W.drop i):=by
 obtain⟨s,n,o,r⟩:=hs
 have k:¬ v ∈ W:=by simpa using r.symm
 have g:∀ j (h:j < W.length),i<=j->W[j] < v:=fun j h hj=>by
  have a:=o j h hj
  have b:W[j]≠v:=fun e=>k (by rw[<- e];exact List.getElem_mem h)
  omega
 have m:(W.take i++[v]++W.drop i).length=W.length+1:=by simp;omega
 have d:∀ q (f:q < (W.take i++[v]++W.drop i).length),(W.take i++[v]++W.drop i)[q]=if h:q < i then W[q]'(by omega) else if h':q=i then v else W[q - 1]'(by omega):=fun q f=>by
  have h:=Mp W v i s q
  rw[List.getElem?_eq_getElem f]at h
  split
  ·rename_i a;rw[if_pos a,List.getElem?_eq_getElem (by omega)]at h;exact Option.some.inj h
  ·rename_i a
   rw[if_neg a]at h
   split
   ·rename_i b;rw[if_pos b]at h;exact Option.some.inj h
   ·rename_i b;rw[if_neg b,List.getElem?_eq_getElem (by omega)]at h;exact Option.some.inj h
 intro p q t f l
 rw[d p t,d q f]
 by_cases a:p < i
 ·rw[dif_pos a]
  by_cases b:q < i
  ·rw[dif_pos b];exact hd p q _ _ l
  ·rw[dif_neg b]
   by_cases c:q=i
   ·rw[dif_pos c];exact n p _ a
   ·rw[dif_neg c];exact hd p (q - 1) _ _ (by omega)
 ·rw[dif_neg a,dif_neg (by omega),dif_neg (by omega)]
  by_cases c:p=i
  ·rw[dif_pos c];exact g (q - 1) _ (by omega)
  ·rw[dif_neg c];exact hd (p - 1) (q - 1) _ _ (by omega)
structure D1 (B g gl:Nat) (c:List Ae) (f:Ae) (ca ia:Option Addr) (cc ic lc:Nat) (pv:Value) (X:List Ap) (W:List Int) (wa:Option Addr) (wc:Nat) (w:World):Prop where
 gB:B<=g
 glB:B<=gl
 ne:g≠gl
 size:B<=w.heap.size
 tr:Gf g w (.slice ca c.length cc) f pv (.slice ia f.ins.length ic) (.slice (some ⟨gl,0,none⟩) f.ins.length lc) (.slice wa W.length wc)
 lays:Ci gl w X
 len:X.length=f.ins.length
 row:w.ownsRow B 3 1 (.slice wa W.length wc) W.length (Al W)
 rg:(Value.slice wa W.length wc).ownBlock≠some g
 rl:(Value.slice wa W.length wc).ownBlock≠some gl
theorem Iw {w w':World} {B e size n:Nat} {v:Value} {xs:List Value} (h:w.ownsRow B e size v n xs) (hk:∀ k,v.ownBlock=some k->w'.heap[k]? = w.heap[k]?):w'.ownsRow B e size v n xs:=by
 obtain⟨d,c⟩:=h
 refine⟨d, ?_⟩
 rcases c with c|⟨g,a,b,rfl,f,i,r⟩
 ·exact .inl c
 ·exact .inr ⟨g,a,b,rfl,f,(hk g rfl).trans i,r⟩
theorem K9 {w:World} {B e size n:Nat} {v:Value} {xs:List Value} (h:w.ownsRow B e size v n xs) {k:Nat} (hk:v.ownBlock=some k):k < w.heap.size:=by
 rcases h.2 with⟨rfl,_⟩|⟨g,a,b,rfl,_,c,_⟩
 ·simp[Value.ownBlock]at hk
 ·have:g=k:=by simpa[Value.ownBlock]using hk
  subst this
  exact(Array.getElem?_eq_some_iff.1 c).1
theorem U6 : ∀ {a b:Ap},Gp a->Gp b->Gp (Bd a b)
 | .none,.none,_,_=>trivial
 | .none,.known _ _,_,h=>h
 | .none,.clash,_,_=>trivial
 | .known _ _,.none,h,_=>h
 | .known _ _,.clash,_,_=>trivial
 | .clash,.none,_,_=>trivial
 | .clash,.known _ _,_,_=>trivial
 | .clash,.clash,_,_=>trivial
 | .known s k,.known s' k',h,_=>by
  rw[Bd]
  by_cases e:k=k'
  ·rw[if_pos e];exact⟨Qw h.1,h.2⟩
  ·rw[if_neg e];trivial
theorem Tq {w:World} {B n:Nat} {v:Value} {xs:List Value} (h:w.ownsRow B 3 1 v n xs) {k:Nat} {cur:Array Value} {ty:TypeId} {fr:Nat × Nat} (hk:w.heap[k]? = some (.cells cur ty fr)) (hne:ty≠3):v.ownBlock≠some k:=fun e=>by
 rcases h.2 with⟨rfl,_⟩|⟨g,b,c,rfl,_,a,_⟩
 ·simp[Value.ownBlock]at e
 ·have:g=k:=by simpa[Value.ownBlock]using e
  subst this
  rw[hk]at a
  injection a with a
  injection a with _ h2
  exact hne h2
theorem D1.below {B g gl:Nat} {c:List Ae} {f:Ae} {ca ia:Option Addr} {cc ic lc:Nat} {pv:Value} {X:List Ap} {W:List Int} {wa:Option Addr} {wc:Nat} {w w':World} (h:D1 B g gl c f ca ia cc ic lc pv X W wa wc w) (hb:Below w.heap.size w w'):D1 B g gl c f ca ia cc ic lc pv X W wa wc w' :=
 ⟨h.gB,h.glB,h.ne,Nat.le_trans h.size hb.size,h.tr.below hb,h.lays.below hb,h.len,Iw h.row (fun k hk=>hb.block k (K9 h.row hk)),h.rg,h.rl⟩
structure Qdy (g gl:Nat) (o o':Option Nat) (w w':World):Prop where
 keep:∀ k,k < w.heap.size->k≠g->k≠gl->o≠some k->w'.heap[k]? = w.heap[k]?
 own:∀ k,o'=some k->k < w.heap.size->o=some k
def Ln (B g gl:Nat) (c:List Ae) (f:Ae) (ca ia:Option Addr) (cc ic lc:Nat) (pv:Value) (X:List Ap) (W:List Int) (at':Nat) (J:Ap) (ch:Prop) (o:Option Nat) (w:World) (e:Ending) (w':World):Prop :=
 ∃ (W':List Int) (wa':Option Addr) (wc':Nat),e = .returned (.tuple #[])/\D1 B g gl c f ca ia cc ic lc pv (X.set at' J) W' wa' wc' w'/\Below B w w'/\Ej W'/\W'.length<=W.length+1/\(∀ v,v ∈ W' ↔ v ∈ W\/(v=(at':Int)/\ch))/\Qdy g gl o (Value.slice wa' W'.length wc').ownBlock w w'
theorem Ow (V:World) (gl o:Nat) (x y z:Value) (k:Nat) (hk:k≠gl):(((V.setCell ⟨gl,o,none⟩ x).setCell ⟨gl,o+1,none⟩ y).setCell ⟨gl,o+2,none⟩ z).heap[k]? = V.heap[k]?:=by
 simp[World.setCell,Array.getElem?_modify,Ne.symm hk]
theorem Qz (m:Nat) (hm:m<=200) (B g gl:Nat) (c:List Ae) (f:Ae) (_hil:f.ins.length<=50000) (ca ia:Option Addr) (cc ic lc:Nat) (pv:Value) (X:List Ap) (W:List Int) (wa:Option Addr) (wc:Nat) (w:World) (hS:D1 B g gl c f ca ia cc ic lc pv X W wa wc w) (at':Nat) (hat:at' < f.ins.length) (a b:Ap) (ha:X[at']'(by rw[hS.len];exact hat)=a) (hbn:b ≠ .none) (la:Dl m a) (lb:Dl m b) (sa:Gp a) (sb:Gp b) (hdn:Ej W) (hwl:W.length<=50000) :
  Calls Tryz.prog 120 #[.pointer (some ⟨g,0,none⟩),.int .i64 (at':Int),Hd b] w (Ln B g gl c f ca ia cc ic lc pv X W at' (Bd a b) (Bd a b≠a) (Value.slice wa W.length wc).ownBlock w):=by
 have bb:at' < X.length:=by rw[hS.len];exact hat
 rw[Gn]
 obtain⟨ab,al⟩:∃ x,Eb b=x:=⟨_,rfl⟩
 obtain⟨ac,am⟩:∃ x,E7 b=x:=⟨_,rfl⟩
 obtain⟨ad,an⟩:∃ x,E6 b=x:=⟨_,rfl⟩
 rw[al,am,an]
 obtain⟨t,a4⟩:∃ Y,w.alloc (.cells #[.int .i64 ab,.string ac,.string ad] 189)=Y:=⟨_,rfl⟩
 have C:Below w.heap.size w t:=by rw[<- a4];exact A5 w _
 have p1:t.heap[w.heap.size]? = some (.cells #[.int .i64 ab,.string ac,.string ad] 189):=by rw[<- a4];exact Ag w _
 obtain⟨-,-,-,-,-,u5,u6,u7⟩:=(hS.tr.below C).cells
 obtain⟨l0,l1,l2⟩:=(hS.lays.below C).cells at' bb
 have y0:t.cell? ⟨w.heap.size,0,none⟩=some (.int .i64 ab):=by rw[Lib.cell_of_heap p1];rfl
 have y1:t.cell? ⟨w.heap.size,1,none⟩=some (.string ac):=by rw[Lib.cell_of_heap p1];rfl
 have y2:t.cell? ⟨w.heap.size,2,none⟩=some (.string ad):=by rw[Lib.cell_of_heap p1];rfl
 have br:((at':Int) == (f.ins.length:Int))=false:=by rw[beq_eq_false_iff_ne];omega
 have ce:(at':Int) < (f.ins.length:Int):=by omega
 rw[ha]at l0 l1 l2
 obtain⟨T,N⟩:∃ x,Eb a=x:=⟨_,rfl⟩
 obtain⟨Z,O⟩:∃ x,E7 a=x:=⟨_,rfl⟩
 obtain⟨aa,P⟩:∃ x,E6 a=x:=⟨_,rfl⟩
 rw[N]at l0
 rw[O]at l1
 rw[P]at l2
 have d:Hid (D1 B g gl c f ca ia cc ic lc pv X W wa wc w):=hS
 have b7:t.heap.size=w.heap.size+1:=by rw[<- a4];exact World.size_alloc _ _
 have bm:=hS.lays.lt
 have bn:=hS.tr.lt
 have HS:Hid (∀ W,Below t.heap.size t W->W.cell? ⟨g,6,none⟩=some (.slice (some ⟨gl,0,none⟩) f.ins.length lc)/\W.cell? ⟨gl,at' * 3,none⟩=some (.int .i64 T)/\W.cell? ⟨gl,at' * 3+1,none⟩=some (.string Z)/\W.cell? ⟨gl,at' * 3+2,none⟩=some (.string aa)/\W.cell? ⟨w.heap.size,0,none⟩=some (.int .i64 ab)/\W.cell? ⟨w.heap.size,1,none⟩=some (.string ac)/\W.cell? ⟨w.heap.size,2,none⟩=some (.string ad)):=fun W hW=>⟨(hW.cell (p:=⟨g,6,none⟩) (by show g < _;omega)).trans u6,(hW.cell (p:=⟨gl,at' * 3,none⟩) (by show gl < _;omega)).trans l0,(hW.cell (p:=⟨gl,at' * 3+1,none⟩) (by show gl < _;omega)).trans l1,(hW.cell (p:=⟨gl,at' * 3+2,none⟩) (by show gl < _;omega)).trans l2,(hW.cell (p:=⟨w.heap.size,0,none⟩) (by show w.heap.size < _;omega)).trans y0,(hW.cell (p:=⟨w.heap.size,1,none⟩) (by show w.heap.size < _;omega)).trans y1,(hW.cell (p:=⟨w.heap.size,2,none⟩) (by show w.heap.size < _;omega)).trans y2⟩
 obtain⟨J,HJ⟩:∃ J,Hid (Bd a b=J):=⟨_,(rfl:Bd a b=_)⟩
 rw[HJ.out]
 have av:Hid (∀ W,Calls Tryz.prog 144 #[.agg #[.int .i64 T,.string Z,.string aa],.agg #[.int .i64 ab,.string ac,.string ad]] W fun e w'=>e = .returned (.agg #[.int .i64 (Eb J),.string (E7 J),.string (E6 J)])/\Below W.heap.size W w'):=fun W=>by
  have h:=Qbi m hm a b hbn la lb sa sb W
  rw[Gn,Gn,Gn,N,O,P,al,am,an,HJ.out]at h
  exact h
 obtain⟨l,Q⟩:∃ x,Eb J=x:=⟨_,rfl⟩
 obtain⟨o,R⟩:∃ x,E7 J=x:=⟨_,rfl⟩
 obtain⟨q,S⟩:∃ x,E6 J=x:=⟨_,rfl⟩
 rw[Q,R,S]at av
 have a1:Hid (Eb J=l/\E7 J=o/\E6 J=q):=⟨Q,R,S⟩
 have ah:Hid ((l == T && o.toList == Z.toList && q.toList == aa.toList)=decide (J=a)):=by
  rw[Hid,<- Q,<- R,<- S,<- N,<- O,<- P]
  exact Q9 (by rw[<- HJ.out];exact U6 sa sb) sa
 have b1:Hid (X[at']'bb=a):=ha
 have az:Hid (Ej W):=hdn
 have aq:Hid (gl < w.heap.size/\g < w.heap.size/\g≠gl):=⟨bm,bn,hS.ne⟩
 have a0:Hid (∀ W j,Below t.heap.size t W->W.frozen? ⟨gl,j,none⟩=false):=fun W j hW=>((hS.lays.below C).below hW).froz j
 clear hS p1 N O P al am an Q R S ha bm bn
 go_enter Tryz.func120,Tryz.ntmps120
 go_wp2_with fail
 go_region_held3 (fun W=>W.cell? ⟨g,6,none⟩=some (.slice (some ⟨gl,0,none⟩) f.ins.length lc)/\W.cell? ⟨gl,at' * 3,none⟩=some (.int .i64 T)/\W.cell? ⟨gl,at' * 3+1,none⟩=some (.string Z)/\W.cell? ⟨gl,at' * 3+2,none⟩=some (.string aa)/\W.cell? ⟨w.heap.size,0,none⟩=some (.int .i64 ab)/\W.cell? ⟨w.heap.size,1,none⟩=some (.string ac)/\W.cell? ⟨w.heap.size,2,none⟩=some (.string ad)) (exact HS.out _ (by repeat' (first|exact z|exact z.size|exact Below.refl _ _|apply Below.drew|refine Below.alloc ?_ ?_ _|refine Below.setCell ?_ ?_ _|exact Nat.le_refl _|(simp;done)|(simp;omega)))) (first|(go_at_call 144;refine(av.out _).mono ?_;rintro e w3 ⟨rfl,a5⟩;have z:=(show Below t.heap.size t w3 from Below.trans (by repeat' (first|exact Below.refl _ _|apply Below.drew|refine Below.alloc ?_ ?_ _|refine Below.setCell ?_ ?_ _|exact Nat.le_refl _|(simp;done)|(simp;omega))) (a5.mono (by first|exact Nat.le_refl _|(simp;done)|(simp;omega))));try (have I:w3.heap[w.heap.size+1]? = some (.cells #[.int .i64 0,.string ⟨#[]⟩,.string ⟨#[]⟩] 189):=(by rw[<- b7];exact(a5.block t.heap.size (by first|(simp;done)|(simp;omega))).trans (Ag t _));have cl:w3.cell? ⟨w.heap.size+1,0,none⟩=some (.int .i64 0):=(by rw[Lib.cell_of_heap I];rfl);have cm:w3.cell? ⟨w.heap.size+1,1,none⟩=some (.string ⟨#[]⟩):=(by rw[Lib.cell_of_heap I];rfl);have cn:w3.cell? ⟨w.heap.size+1,2,none⟩=some (.string ⟨#[]⟩):=(by rw[Lib.cell_of_heap I];rfl);have bs:w3.frozen? ⟨w.heap.size+1,0,none⟩=false:=(by simp[World.frozen?,I]);have bt:w3.frozen? ⟨w.heap.size+1,1,none⟩=false:=(by simp[World.frozen?,I]);have bu:w3.frozen? ⟨w.heap.size+1,2,none⟩=false:=(by simp[World.frozen?,I]))))
 all_goals first
  | (obtain⟨V,hV⟩:∃ V,w3.alloc (.cells #[.int .i64 l,.string o,.string q] 189)=V:=⟨_,rfl⟩;rw[hV];obtain⟨u,G⟩:∃ b,w3.heap.size=b:=⟨_,rfl⟩;rw[G];have ak:Below t.heap.size t V:=(by rw[<- hV];exact z.alloc z.size _);have ae:V.heap[u]? = some (.cells #[.int .i64 l,.string o,.string q] 189):=(by rw[<- hV,<- G];exact Ag _ _);have b5:t.heap.size<=u:=(by rw[<- G];exact z.size))
  | (obtain⟨V,hV⟩:∃ V,((w3.setCell ⟨w.heap.size+1,0,none⟩ (.int .i64 l)).setCell ⟨w.heap.size+1,1,none⟩ (.string o)).setCell ⟨w.heap.size+1,2,none⟩ (.string q)=V:=⟨_,rfl⟩;rw[hV];obtain⟨u,G⟩:∃ b,w.heap.size+1=b:=⟨_,rfl⟩;rw[G];have ak:Below t.heap.size t V:=(by rw[<- hV];exact((z.setCell (p:=⟨w.heap.size+1,0,none⟩) (by show t.heap.size<=w.heap.size+1;omega) _).setCell (p:=⟨w.heap.size+1,1,none⟩) (by show t.heap.size<=w.heap.size+1;omega) _).setCell (p:=⟨w.heap.size+1,2,none⟩) (by show t.heap.size<=w.heap.size+1;omega) _);have ae:V.heap[u]? = some (.cells #[.int .i64 l,.string o,.string q] 189):=(by rw[<- hV,<- G];simp[World.setCell,Array.getElem?_modify,I]);have b5:t.heap.size<=u:=(by omega))
 all_goals
  obtain⟨v6,b9,cb,cd,-,-,-⟩:=HS.out V ak
  have n0:V.cell? ⟨u,0,none⟩=some (.int .i64 l):=by rw[Lib.cell_of_heap ae];rfl
  have n1:V.cell? ⟨u,1,none⟩=some (.string o):=by rw[Lib.cell_of_heap ae];rfl
  have n2:V.cell? ⟨u,2,none⟩=some (.string q):=by rw[Lib.cell_of_heap ae];rfl
  clear hV G a5 z
  have bk:=Qcc l T o q Z aa
  have cg:=Xa
  obtain⟨bq,a7⟩:∃ x,(l == T && o.toList == Z.toList && q.toList == aa.toList)=x:=⟨_,rfl⟩
  rw[a7]at bk
  go_wp2_with fail
  go_quiet (fail)
 all_goals
  cases bq with
  | true =>
   go_wp2_with fail
   have hJ:J=a:=by
    have h:=ah.out
    rw[a7]at h
    exact of_decide_eq_true h.symm
   have b2:X.set at' J=X:=by rw[hJ,<- b1.out];exact List.set_getElem_self ..
   have a8:Below w.heap.size w (V.drewN nq):=Bz _ (C.trans (ak.mono C.size))
   refine bodyPost_ret (v:=.tuple #[]) (by simp[results,Tryz.results120,go_sem]) rfl ⟨W,wa,wc,rfl, ?_,a8.mono d.out.size,az.out,by omega,fun v => ?_,⟨fun k hk _ _ _=>a8.block k hk,fun k h _=>h⟩⟩
   ·rw[b2];exact d.out.below a8
   ·constructor
    ·exact fun h => .inl h
    ·rintro(h|⟨_,h⟩)
     ·exact h
     ·exact(h hJ).elim
  | false =>
   have E:Below t.heap.size t (V.drewN nq):=Bz _ ak
   obtain⟨F,a3⟩:∃ F,V.drewN nq=F:=⟨_,rfl⟩
   rw[a3]at E |-
   have ao:F.heap[u]? = some (.cells #[.int .i64 l,.string o,.string q] 189):=by rw[<- a3];exact ae
   obtain⟨w6,ci,cj,ck,-,-,-⟩:=HS.out F E
   have m0:F.cell? ⟨u,0,none⟩=some (.int .i64 l):=by rw[Lib.cell_of_heap ao];rfl
   have m1:F.cell? ⟨u,1,none⟩=some (.string o):=by rw[Lib.cell_of_heap ao];rfl
   have m2:F.cell? ⟨u,2,none⟩=some (.string q):=by rw[Lib.cell_of_heap ao];rfl
   clear a3 bk v6 b9 cb cd n0 n1 n2 ae ak
   have au:g≠gl:=aq.out.2.2
   have bc:u≠gl:=by have:=aq.out.1;omega
   have HK:Hid (∀ U:World,(∀ k,k≠gl->U.heap[k]? = F.heap[k]?)->U.cell? ⟨g,6,none⟩=some (.slice (some ⟨gl,0,none⟩) f.ins.length lc)/\U.cell? ⟨u,0,none⟩=some (.int .i64 l)/\U.cell? ⟨u,1,none⟩=some (.string o)/\U.cell? ⟨u,2,none⟩=some (.string q)):=fun U hW=>⟨(World.cell?_of_block (a:=⟨g,6,none⟩) (hW g au)).trans w6,(World.cell?_of_block (a:=⟨u,0,none⟩) (hW u bc)).trans m0,(World.cell?_of_block (a:=⟨u,1,none⟩) (hW u bc)).trans m1,(World.cell?_of_block (a:=⟨u,2,none⟩) (hW u bc)).trans m2⟩
   have bs:=a0.out F (at' * 3) E
   have bt:=a0.out F (at' * 3+1) E
   have bu:=a0.out F (at' * 3+2) E
   go_wp2_with fail
   go_region_held3 (fun W=>W.cell? ⟨g,6,none⟩=some (.slice (some ⟨gl,0,none⟩) f.ins.length lc)/\W.cell? ⟨u,0,none⟩=some (.int .i64 l)/\W.cell? ⟨u,1,none⟩=some (.string o)/\W.cell? ⟨u,2,none⟩=some (.string q)) (exact HK.out _ (fun k hk=>by first|rfl|exact Ow F gl (at' * 3) (.int .i64 l) (.string o) (.string q) k hk)) (fail)
   all_goals
    obtain⟨s,aj⟩:∃ s,(((F.setCell ⟨gl,at' * 3,none⟩ (.int .i64 l)).setCell ⟨gl,at' * 3+1,none⟩ (.string o)).setCell ⟨gl,at' * 3+2,none⟩ (.string q)).drew=s:=⟨_,rfl⟩
    rw[aj]
    have bz:Hid (∀ k,k≠gl->s.heap[k]? = F.heap[k]?):=fun k hk=>by rw[<- aj];exact Ow F gl (at' * 3) (.int .i64 l) (.string o) (.string q) k hk
    have af:Hid (∀ k,k < w.heap.size->k≠gl->s.heap[k]? = w.heap[k]?):=fun k hk br=>((bz.out k br).trans (E.block k (by omega))).trans (C.block k hk)
    have ag:Hid (s.ownsRow B 3 1 (.slice wa W.length wc) W.length (Al W)):=Iw d.out.row (fun k hk=>af.out k (K9 d.out.row hk) (fun e=>d.out.rl (by rw[hk,e])))
    have bv:Hid (Ab s.heap.size s (.slice wa W.length wc) W):=Ab.own ag.out (Nat.le_refl _)
    have g7:s.cell? ⟨g,7,none⟩=some (.slice wa W.length wc):=by
     have h:=(af.out g aq.out.2.1 au)
     rw[World.cell?_of_block (a:=⟨g,7,none⟩) h]
     exact(d.out.tr.cells).2.2.2.2.2.2.2
    have cf:s.drew.cell? ⟨g,7,none⟩=some (.slice wa W.length wc):=by rw[World.drew_is_drewN,World.cell?_drewN];exact g7
    have bg:Hid (Calls Tryz.prog 145 #[.slice wa W.length wc,.int .i64 (at':Int),.func (Fn.func 146) #[] #[]] s (Nm W (at':Int) s)):=Vc W (at':Int) hdn wa wc (by omega) _ s bv.out
    have ai:Hid (Gf g s (.slice ca c.length cc) f pv (.slice ia f.ins.length ic) (.slice (some ⟨gl,0,none⟩) f.ins.length lc) (.slice wa W.length wc)):=⟨(af.out g aq.out.2.1 au).trans d.out.tr.blk⟩
    have L:Hid (Ci gl s (X.set at' J)):=by
     rw[Hid,<- aj,<- a1.out.1,<- a1.out.2.1,<- a1.out.2.2]
     exact Ci.store ((d.out.lays.below C).below E) at' bb J
    have A:Hid (Below B w s/\B<=s.heap.size):=by
     have h2:Below B w F:=(C.trans (E.mono C.size)).mono d.out.size
     have h3:Below B w s:=by
      rw[<- aj]
      exact(((h2.setCell (p:=⟨gl,at' * 3,none⟩) d.out.glB _).setCell (p:=⟨gl,at' * 3+1,none⟩) d.out.glB _).setCell (p:=⟨gl,at' * 3+2,none⟩) d.out.glB _).drew
     exact⟨h3,Nat.le_trans d.out.size h3.size⟩
    have bh:Hid True:=trivial
    clear aj w6 m0 m1 m2 bs bt bu
    by_cases hmem:(at':Int) ∈ W
    ·have M:Hid (decide ((at':Int) ∈ W)=true):=by rw[Hid];simp[hmem]
     clear hmem
     go_wp2_with (first|(go_at_call 145;refine bg.out.mono ?_;rintro e w4 ⟨⟨i,b,rfl,H⟩,rfl⟩;have a6:b=true:=(by rw[H.2.2.2];exact M.out);subst a6;have a2:Hid (Iu W (at':Int) i true):=H;clear H))
     have ch:=bh.out
     first|go_end0|skip
     exact⟨W,wa,wc,by first|rfl|simp,⟨d.out.gB,d.out.glB,d.out.ne,A.out.2,ai.out,L.out,by rw[List.length_set];exact d.out.len,ag.out,d.out.rg,d.out.rl⟩,A.out.1,az.out,by omega,fun v=>⟨fun h => .inl h,fun h=>by
      rcases h with h|⟨h,_⟩
      ·exact h
      ·rw[h];exact of_decide_eq_true M.out⟩,⟨fun k hk _ hl _=>af.out k hk hl,fun k h _=>h⟩⟩
    ·have M:Hid (decide ((at':Int) ∈ W)=false):=by rw[Hid];simp[hmem]
     clear hmem
     have bw:Hid (J≠a):=fun e=>by
      have h:=ah.out
      rw[a7,e]at h
      simp at h
     obtain⟨Vq,ar⟩:∃ Vq,s.alloc (.cells #[.int .i64 (at':Int)] 3)=Vq:=⟨_,rfl⟩
     have y:Hid (Below s.heap.size s Vq):=by rw[Hid,<- ar];exact A5 _ _
     have aw:Hid (Vq.ownsRow B 3 1 (.slice wa W.length wc) W.length (Al W)):=Iw ag.out (fun k hk=>y.out.block k (K9 ag.out hk))
     have be:Hid (∀ i,Iu W (at':Int) i false->Calls Tryz.prog 147 #[.slice wa W.length wc,.int .i64 (i:Int),.slice (some ⟨s.heap.size,0,none⟩) 1 1] Vq (Gl B (W.take i++[(at':Int)]++W.drop i) (Value.slice wa W.length wc).ownBlock Vq)):=fun i hi=>U3 B W W.length i rfl hi.1 (at':Int) wa wc s.heap.size Vq (by omega) (Nat.le_trans A.out.2 y.out.size) aw.out (by rw[<- ar];exact Ag _ _) (fun e=>absurd (K9 ag.out e) (by omega))
     have bx:Hid (∀ K:World,Vq.grownBy K (Value.slice wa W.length wc).ownBlock->K.heap[g]? = some (.cells #[.slice ca c.length cc,.string f.name,pv,.int .i64 f.result,.int .i64 f.slots,.slice ia f.ins.length ic,.slice (some ⟨gl,0,none⟩) f.ins.length lc,.slice wa W.length wc] 186 (0,0))/\K.heap[gl]? = s.heap[gl]?):=fun K h9=>by
      have bl:g < s.heap.size:=ai.out.lt
      have bo:gl < s.heap.size:=L.out.lt
      exact⟨((h9.block g (Nat.lt_of_lt_of_le bl y.out.size) (fun e=>d.out.rg e.symm)).trans (y.out.block g bl)).trans ai.out.blk,(h9.block gl (Nat.lt_of_lt_of_le bo y.out.size) (fun e=>d.out.rl e.symm)).trans (y.out.block gl bo)⟩
     have b0:Hid (s.alloc (.cells #[.int .i64 (at':Int)] 3)=Vq):=ar
     clear ar
     go_wp2_with (first|(go_at_call 145;refine bg.out.mono ?_;rintro e w4 ⟨⟨i,b,rfl,H⟩,rfl⟩;have a6:b=false:=(by rw[H.2.2.2];exact M.out);subst a6;have a2:Hid (Iu W (at':Int) i false):=H;clear H)|(go_at_call 147;rw[b0.out];refine(be.out i a2.out).mono ?_;rintro e K ⟨a9,r,rfl,D,ba,ax⟩;obtain⟨N2,bf⟩:∃ n,Hid ((W.take i++[(at':Int)]++W.drop i).length=n):=⟨_,(rfl:(W.take i++[(at':Int)]++W.drop i).length=_)⟩;rw[bf.out]at D ax |-;obtain⟨t9,l9⟩:=bx.out K ba;have c7:K.cell? ⟨g,7,none⟩=some (.slice wa W.length wc):=(by rw[Lib.cell_of_heap t9];rfl);have f7:K.frozen? ⟨g,7,none⟩=false:=(by simp[World.frozen?,t9])))
     have ay:=Tq D t9 (by decide)
     have bd:(Value.slice a9 N2 r).ownBlock≠some gl:=by
      obtain⟨cs,q1,-⟩:=L.out.blk
      exact Tq D (l9.trans q1) (by decide)
     have ap:∀ k,k≠g->(K.setCell ⟨g,7,none⟩ (.slice a9 N2 r)).heap[k]? = K.heap[k]?:=fun k hk=>by simp[World.setCell,Array.getElem?_modify,Ne.symm hk]
     have b8:(K.setCell ⟨g,7,none⟩ (.slice a9 N2 r)).heap[g]? = some (.cells #[.slice ca c.length cc,.string f.name,pv,.int .i64 f.result,.int .i64 f.slots,.slice ia f.ins.length ic,.slice (some ⟨gl,0,none⟩) f.ins.length lc,.slice a9 N2 r] 186 (0,0)):=by simp[World.setCell,Array.getElem?_modify,t9]
     have b4:Ci gl (K.setCell ⟨g,7,none⟩ (.slice a9 N2 r)) (X.set at' J):=by
      obtain⟨cs,q1,q2⟩:=L.out.blk
      exact⟨cs,((ap gl (Ne.symm au)).trans l9).trans q1,q2⟩
     have b6:(K.setCell ⟨g,7,none⟩ (.slice a9 N2 r)).ownsRow B 3 1 (.slice a9 N2 r) N2 (Al (W.take i++[(at':Int)]++W.drop i)):=Iw D (fun k hk=>ap k (fun e=>ay (by rw[hk,e])))
     have bj:Below B w Vq:=A.out.1.trans (y.out.mono A.out.2)
     have b3:Below B w K:=Dq bj ba (Nat.le_trans A.out.2 y.out.size) (fun k hk=>B5 aw.out hk)
     have bi:Below B w (K.setCell ⟨g,7,none⟩ (.slice a9 N2 r)):=b3.setCell (p:=⟨g,7,none⟩) d.out.gB _
     have bp:(W.take i++[(at':Int)]++W.drop i).length<=W.length+1:=by simp;omega
     have hN:=bf.out
     first|go_end0|skip
     subst hN
     exact⟨W.take i++[(at':Int)]++W.drop i,a9,r,by first|rfl|simp,⟨d.out.gB,d.out.glB,d.out.ne,Nat.le_trans d.out.size bi.size,⟨b8⟩,b4,by rw[List.length_set];exact d.out.len,b6,ay,bd⟩,bi,Yw az.out a2.out,bp,fun v=>⟨fun h=>by
      rcases(Tl W (at':Int) i v).1 h with h|h
      ·exact .inl h
      ·exact .inr ⟨h,bw.out⟩,fun h=>(Tl W (at':Int) i v).2 (by
      rcases h with h|⟨h,_⟩
      ·exact .inl h
      ·exact .inr h)⟩,⟨fun k hk hkg hkl hko=>((ap k hkg).trans (ba.block k (Nat.lt_of_lt_of_le hk (Nat.le_trans A.out.1.size y.out.size)) (fun e=>hko e.symm))).trans ((y.out.block k (Nat.lt_of_lt_of_le hk A.out.1.size)).trans (af.out k hk hkl)),fun k h hk=>by
      rcases ax with e|e
      ·exact e.symm.trans h
      ·rw[e]at h
       injection h with h
       have:=Nat.le_trans A.out.1.size y.out.size
       omega⟩⟩
theorem Wp (B g gl:Nat) (c:List Ae) (f:Ae) (_hil:f.ins.length<=50000) (ca ia:Option Addr) (cc ic lc:Nat) (pv:Value) (X:List Ap) (W:List Int) (wa:Option Addr) (wc:Nat) (w:World) (hS:D1 B g gl c f ca ia cc ic lc pv X W wa wc w) (at':Nat) (hat:at'=f.ins.length) (b:Ap) :
  Calls Tryz.prog 120 #[.pointer (some ⟨g,0,none⟩),.int .i64 (at':Int),Hd b] w fun e w'=>e = .returned (.tuple #[])/\D1 B g gl c f ca ia cc ic lc pv X W wa wc w'/\Below w.heap.size w w':=by
 rw[Gn]
 obtain⟨k,a⟩:∃ x,Eb b=x:=⟨_,rfl⟩
 obtain⟨l,d⟩:∃ x,E7 b=x:=⟨_,rfl⟩
 obtain⟨m,h⟩:∃ x,E6 b=x:=⟨_,rfl⟩
 rw[a,d,h]
 obtain⟨o,n⟩:∃ Y,w.alloc (.cells #[.int .i64 k,.string l,.string m] 189)=Y:=⟨_,rfl⟩
 have i:Below w.heap.size w o:=by rw[<- n];exact A5 w _
 obtain⟨-,-,-,-,-,q,r,s⟩:=(hS.tr.below i).cells
 have p:((at':Int) == (f.ins.length:Int))=true:=by rw[hat];simp
 have j:Hid (D1 B g gl c f ca ia cc ic lc pv X W wa wc w):=hS
 clear hS hat a d h
 go_enter Tryz.func120,Tryz.ntmps120
 go_wp2_with fail
 exact bodyPost_ret (v:=.tuple #[]) (by simp[results,Tryz.results120,go_sem]) rfl ⟨rfl,j.out.below i,i⟩
theorem D1.leftIn {B g gl:Nat} {c:List Ae} {f:Ae} {ca ia:Option Addr} {cc ic lc:Nat} {pv:Value} {X:List Ap} {W:List Int} {wa:Option Addr} {wc:Nat} {w:World} (h:D1 B g gl c f ca ia cc ic lc pv X W wa wc w) (hI:Ba B w (.slice ia f.ins.length ic) f.ins) (hC:Ak B w (.slice ca c.length cc) c) (hT:Cg w) (hW:Dj w) (at':Nat):Gm c f at' ca ia cc ic lc gl g X pv (.slice wa W.length wc) w :=
 ⟨h.tr,h.lays,Ba.mono hI h.size,Ak.mono hC h.size,hT,hW⟩
theorem Qcp (U:World) (st:Int) (a b:Value):Sem.run Tryz.prog (Instr.field 189 (.agg #[.int .i64 st,a,b]) 0) U = .ok (.int .i64 st) U:=by
 simp[Instr.field,run_underlying Tryz.underlying189,go_sem,asAgg]
def On (c:List Ae) (f:Ae) (X:List Ap) (w:World) (e:Ending) (w':World):Prop :=
 ((∃ u:Nat,u < f.ins.length/\e = .returned (.int .i64 (u:Int))/\B7 c f X u=true/\∀ j,j < u->B7 c f X j=false)\/(e = .returned (.int .i64 (-1))/\∀ j,j < f.ins.length->B7 c f X j=false))/\Below w.heap.size w w'
theorem Wt (B g gl:Nat) (c:List Ae) (f:Ae) (hR:Jn c f) (ca ia:Option Addr) (cc ic lc:Nat) (pv:Value) (X:List Ap) (W:List Int) (wa:Option Addr) (wc:Nat) (w:World) (hS:D1 B g gl c f ca ia cc ic lc pv X W wa wc w) (hI:Ba B w (.slice ia f.ins.length ic) f.ins) (hC:Ak B w (.slice ca c.length cc) c) (hT:Cg w) (hW:Dj w) (hfine:∀ u,Dn (Ao X u)) (hlens:∀ u,Dl f.slots.toNat (Ao X u)) :
  Calls Tryz.prog 86 #[.pointer (some ⟨g,0,none⟩)] w (On c f X w):=by
 have A:Hid (∀ U at',Below w.heap.size w U->Gm c f at' ca ia cc ic lc gl g X pv (.slice wa W.length wc) U):=fun U at' r=>(hS.leftIn hI hC hT hW at').below r
 have D:Hid (X.length=f.ins.length):=hS.len
 have S:=hR.il
 have R:Hid (Jn c f):=hR
 have H:Hid (∀ u,Dn (Ao X u)):=hfine
 have I:Hid (∀ u,Dl f.slots.toNat (Ao X u)):=hlens
 obtain⟨-,-,-,-,-,-,u6,-⟩:=hS.tr.cells
 clear hS hI hC hT hW hfine hlens hR
 have M:∀ (U:World) (st:Int) (a b:Value),Sem.run Tryz.prog (Instr.field 189 (.agg #[.int .i64 st,a,b]) 0) U = .ok (.int .i64 st) U:=Qcp
 go_enter Tryz.func86,Tryz.ntmps86
 go_wp2_with fail
 go_loopw [10] (fun t wr => ∃ u:Nat,u<=f.ins.length/\t = .int .i64 (u:Int)/\Below w.heap.size w wr/\Hid (∀ j,j < u->B7 c f X j=false)) (fun t _=>f.ins.length - (intOf t).toNat)
 case atStart=>exact⟨0,by omega,rfl,Below.refl _ _,fun j h=>by omega⟩
 case round =>
  obtain⟨u,Z,rfl,n,G⟩:=hrel
  by_cases hlt:u < f.ins.length
  ·have F:(u:Int) < (f.ins.length:Int):=by omega
   have o:u < X.length:=by rw[D.out];exact hlt
   obtain⟨N,O,P⟩:=(A.out wr u n).lays.cells u o
   obtain⟨d,p⟩:∃ d,Hid (X[u]'o=d):=⟨_,(rfl:X[u]'o=_)⟩
   rw[p.out]at N O P
   have m:Hid (Ao X u=d):=by
    rw[Hid,Ao,List.getD_eq_getElem?_getD,List.getElem?_eq_getElem o];exact p.out
   obtain⟨U,r⟩:∃ U,wr.alloc (.cells #[.int .i64 (Eb d),.string (E7 d),.string (E6 d)] 189)=U:=⟨_,rfl⟩
   have i:Below w.heap.size w U:=by rw[<- r];exact n.alloc n.size _
   have V:U.cell? ⟨wr.heap.size,0,none⟩=some (.int .i64 (Eb d)):=by
    have h:U.heap[wr.heap.size]? = some (.cells #[.int .i64 (Eb d),.string (E7 d),.string (E6 d)] 189):=by rw[<- r];exact Ag _ _
    rw[Lib.cell_of_heap h];rfl
   obtain⟨Q,l⟩:∃ x,Eb d=x:=⟨_,rfl⟩
   obtain⟨s1,v⟩:∃ x,E7 d=x:=⟨_,rfl⟩
   obtain⟨s2,y⟩:∃ x,E6 d=x:=⟨_,rfl⟩
   rw[l]at N V r
   rw[v]at O r
   rw[y]at P r
   by_cases hn:d = .none
   ·have T:(Q != 0)=false:=by rw[<- l,hn];rfl
    have q:Hid (∀ j,j < u+1->B7 c f X j=false):=fun j hj=>by
     by_cases e:j=u
     ·subst e;unfold B7;rw[m.out,hn];simp
     ·exact G.out j (by omega)
    clear l v y hn
    go_wp2_with fail
    go_roundw
    case rel=>exact⟨u+1,by omega,by go_num,i,q⟩
    case measure=>simp[intOf];omega
   ·have T:(Q != 0)=true:=by
     rw[<- l];cases d with
     | none=>exact(hn rfl).elim
     | known _ _=>rfl
     | clash=>rfl
    obtain⟨K,L⟩:∃ K,Hid (Cm c f u d=K):=⟨_,(rfl:Cm c f u d=_)⟩
    have k:Hid (Calls Tryz.prog 121 #[.pointer (some ⟨g,0,none⟩),.int .i64 (u:Int)] U fun e w'=>e = .returned (.agg #[.int .i64 (Eb K),.string (E7 K),.string (E6 K)])/\Below U.heap.size U w'):=by
     have h:=Ra c f R.out u hlt X D.out d p.out hn (by rw[<- m.out];exact H.out u) (by rw[<- m.out];exact I.out u) ca ia cc ic pv _ lc gl g U (A.out U u i)
     rw[L.out,Gn]at h
     exact h
    have C:Hid (B7 c f X u=decide (K = .clash)):=by
     rw[Hid,B7,m.out,L.out];simp[hn]
    clear l v y hn
    by_cases hk:K = .clash
    ·have J:(Eb K == 2)=true:=by rw[hk];rfl
     have E:Hid (B7 c f X u=true):=by rw[Hid,C.out];simp[hk]
     clear hk
     go_wp2_with (first|(go_at_call 121;refine k.out.mono ?_;rintro e Y ⟨rfl,s⟩))
     go_ret
     exact⟨.inl ⟨u,hlt,rfl,E.out,G.out⟩,i.trans (s.mono i.size)⟩
    ·have J:(Eb K == 2)=false:=by cases K <;> first|rfl|exact(hk rfl).elim
     have q:Hid (∀ j,j < u+1->B7 c f X j=false):=fun j hj=>by
      by_cases e:j=u
      ·subst e;rw[C.out];simp[hk]
      ·exact G.out j (by omega)
     clear hk
     go_wp2_with (first|(go_at_call 121;refine k.out.mono ?_;rintro e Y ⟨rfl,s⟩))
     go_roundw
     case rel=>exact⟨u+1,by omega,by go_num,i.trans (s.mono i.size),q⟩
     case measure=>simp[intOf];omega
  ·have F:¬ (u:Int) < (f.ins.length:Int):=by omega
   have z:Hid (∀ j,j < f.ins.length->B7 c f X j=false):=fun j hj=>G.out j (by omega)
   go_wp2_with fail
   go_ret
   exact⟨.inr ⟨rfl,z.out⟩,n⟩
end Go.Proofs.YtfjkahdghhbpnaaGreatDoor
