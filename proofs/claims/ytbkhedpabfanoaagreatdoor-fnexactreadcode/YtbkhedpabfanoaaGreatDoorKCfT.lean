import Derived.Test.YtbkhedpabfanoaaGreatDoorKCfF
import Derived.Laws.StructEq
import Derived.Test.YtbkhedpabfanoaaGreatDoorKCfL
import Derived.Test.YtbkhedpabfanoaaGreatDoorKCfO
namespace Go.Proofs.YtbkhedpabfanoaaGreatDoor
open Go.RowKit

theorem Cd.eq_lay (a0 c0:Int) (a1 a2 c1 c2:ByteArray) (w:World):(Op.equalIn 10000 168 (.agg #[.int .i64 a0,.string a1,.string a2]) (.agg #[.int .i64 c0,.string c1,.string c2])).run Tryz.prog w = .ok (a0 == c0 && a1.toList == c1.toList && a2.toList == c2.toList) w:=by
  have u3:=Tryz.underlying3
  have u9:=Tryz.underlying9
  have hS:Tryz.prog.underlying 168=some (.struct (Tryz.prog.fieldsOf 168)):=by kernel_rfl
  have hp:Tryz.prog.stoodInHeld 168=false:=by kernel_rfl
  rw [show (10000:Nat)=9999+1 from rfl,run_equalIn_agg w 9999 168 _ _ hS hp]
  simp only [Program.fieldsOf,Tryz.underlying168]
  go_simp
  by_cases h1:a0=c0 <;> by_cases h2:a1.toList=c1.toList <;> by_cases h3:a2.toList=c2.toList <;> simp [h1,h2,h3]
theorem Cd.eq_flaw (a b c x y z:Int) (w:World):(Op.equalIn 10000 124 (.agg #[.int .i64 a,.int .i64 b,.int .i64 c]) (.agg #[.int .i64 x,.int .i64 y,.int .i64 z])).run Tryz.prog w = .ok (a == x && b == y && c == z) w:=by
  have u3:=Tryz.underlying3
  have hS:Tryz.prog.underlying 124=some (.struct (Tryz.prog.fieldsOf 124)):=by kernel_rfl
  have hp:Tryz.prog.stoodInHeld 124=false:=by kernel_rfl
  rw [show (10000:Nat)=9999+1 from rfl,run_equalIn_agg w 9999 124 _ _ hS hp]
  simp only [Program.fieldsOf,Tryz.underlying124]
  go_simp
  by_cases h1:a=x <;> by_cases h2:b=y <;> by_cases h3:c=z <;> simp [h1,h2,h3]
theorem Cd.guard_lay : Tryz.prog.eqGuardType Tryz.prog.depth 168=false:=by kernel_rfl
theorem Cd.guard_flaw : Tryz.prog.eqGuardType Tryz.prog.depth 124=false:=by kernel_rfl
end Go.Proofs.YtbkhedpabfanoaaGreatDoor
namespace Go.Proofs.YtbkhedpabfanoaaGreatDoor
open Go.RowKit

theorem Cd.lay_same {a b:Cd.Sh} (ha:Cd.smallS a) (hb:Cd.smallS b):(Cd.st a == Cd.st b && (Cd.sb a).toList == (Cd.sb b).toList && (Cd.kb a).toList == (Cd.kb b).toList)=decide (a=b):=by
  cases a with
  | none=>cases b <;> simp [Cd.st,Cd.sb,Cd.kb]
  | clash=>cases b <;> simp [Cd.st,Cd.sb,Cd.kb]
  | known s k =>
    cases b with
    | none=>simp [Cd.st]
    | clash=>simp [Cd.st]
    | known s' k' =>
      simp only [Cd.st,Cd.sb,Cd.kb,Cd.bs_eq ha.1 hb.1,Cd.bs_eq ha.2 hb.2]
      by_cases h1:s=s' <;> by_cases h2:k=k' <;> simp [h1,h2]
theorem Cd.LaysAt.store {g:Nat} {V:World} {X:List Cd.Sh} (h:Cd.LaysAt g V X) (u:Nat) (hu:u < X.length) (J:Cd.Sh):Cd.LaysAt g ((((V.setCell ⟨g,u * 3,none⟩ (.int .i64 (Cd.st J))).setCell ⟨g,u * 3+1,none⟩ (.string (Cd.sb J))).setCell ⟨g,u * 3+2,none⟩ (.string (Cd.kb J))).drew) (X.set u J):=by
  obtain ⟨cs,h1,h2,h3⟩:=h.blk
  refine ⟨((cs.setIfInBounds (u * 3) (.int .i64 (Cd.st J))).setIfInBounds (u * 3+1) (.string (Cd.sb J))).setIfInBounds (u * 3+2) (.string (Cd.kb J)), ?_,by simp [h2],fun v hv => ?_⟩
  · show (((V.setCell ⟨g,u * 3,none⟩ (.int .i64 (Cd.st J))).setCell ⟨g,u * 3+1,none⟩ (.string (Cd.sb J))).setCell ⟨g,u * 3+2,none⟩ (.string (Cd.kb J))).heap[g]? = _
    simp [World.setCell,Array.getElem?_modify,h1]
  · rw [List.length_set] at hv
    have hc:u * 3+2 < cs.size:=by rw [h2];omega
    by_cases e:v=u
    · subst e
      simp only [List.getElem_set_self]
      refine ⟨?_, ?_, ?_⟩
      · rw [Array.getElem?_setIfInBounds,if_neg (by omega),Array.getElem?_setIfInBounds,if_neg (by omega),Array.getElem?_setIfInBounds,if_pos rfl,if_pos (by omega)]
      · rw [Array.getElem?_setIfInBounds,if_neg (by omega),Array.getElem?_setIfInBounds,if_pos rfl,if_pos (by simp;omega)]
      · rw [Array.getElem?_setIfInBounds,if_pos rfl,if_pos (by simp;omega)]
    · rw [List.getElem_set_ne (fun h=>e h.symm)]
      obtain ⟨a,b,c⟩:=h3 v hv
      refine ⟨?_, ?_, ?_⟩
      · rw [Array.getElem?_setIfInBounds,if_neg (by omega),Array.getElem?_setIfInBounds,if_neg (by omega),Array.getElem?_setIfInBounds,if_neg (by omega)];exact a
      · rw [Array.getElem?_setIfInBounds,if_neg (by omega),Array.getElem?_setIfInBounds,if_neg (by omega),Array.getElem?_setIfInBounds,if_neg (by omega)];exact b
      · rw [Array.getElem?_setIfInBounds,if_neg (by omega),Array.getElem?_setIfInBounds,if_neg (by omega),Array.getElem?_setIfInBounds,if_neg (by omega)];exact c
theorem Cd.mem_ins (W:List Int) (v:Int) (i:Nat) (x:Int):x ∈ W.take i++[v]++W.drop i ↔ x ∈ W∨x=v:=by
  have e:x ∈ W ↔ x ∈ W.take i∨x ∈ W.drop i:=by
    rw [← List.mem_append,List.take_append_drop]
  simp only [List.mem_append,List.mem_singleton,e]
  constructor
  · rintro ((h | h) | h)
    · exact .inl (.inl h)
    · exact .inr h
    · exact .inl (.inr h)
  · rintro ((h | h) | h)
    · exact .inl (.inl h)
    · exact .inr h
    · exact .inl (.inr h)
theorem Cd.down_ins {W:List Int} {v:Int} {i:Nat} (hd:Cd.down W) (hs:Cd.SearchIs W v i false):Cd.down (W.take i++[v]++W.drop i):=by
  obtain ⟨hi,h1,h2,h3⟩:=hs
  have hnm:¬ v ∈ W:=by simpa using h3.symm
  have hlt:∀ j (h:j < W.length),i≤j→W[j] < v:=fun j h hj=>by
    have a:=h2 j h hj
    have b:W[j]≠v:=fun e=>hnm (by rw [← e];exact List.getElem_mem h)
    omega
  have hlen:(W.take i++[v]++W.drop i).length=W.length+1:=by simp;omega
  have hget:∀ q (hq:q < (W.take i++[v]++W.drop i).length),(W.take i++[v]++W.drop i)[q]=if h:q < i then W[q]'(by omega) else if h':q=i then v else W[q - 1]'(by omega):=fun q hq=>by
    have h:=Cd.ins_list W v i hi q
    rw [List.getElem?_eq_getElem hq] at h
    split
    · rename_i a;rw [if_pos a,List.getElem?_eq_getElem (by omega)] at h;exact Option.some.inj h
    · rename_i a
      rw [if_neg a] at h
      split
      · rename_i b;rw [if_pos b] at h;exact Option.some.inj h
      · rename_i b;rw [if_neg b,List.getElem?_eq_getElem (by omega)] at h;exact Option.some.inj h
  intro p q hp hq hpq
  rw [hget p hp,hget q hq]
  by_cases a:p < i
  · rw [dif_pos a]
    by_cases b:q < i
    · rw [dif_pos b];exact hd p q _ _ hpq
    · rw [dif_neg b]
      by_cases c:q=i
      · rw [dif_pos c];exact h1 p _ a
      · rw [dif_neg c];exact hd p (q - 1) _ _ (by omega)
  · rw [dif_neg a,dif_neg (by omega),dif_neg (by omega)]
    by_cases c:p=i
    · rw [dif_pos c];exact hlt (q - 1) _ (by omega)
    · rw [dif_neg c];exact hd (p - 1) (q - 1) _ _ (by omega)
end Go.Proofs.YtbkhedpabfanoaaGreatDoor
namespace Go.Proofs.YtbkhedpabfanoaaGreatDoor
open Go.RowKit

structure Cd.TrSt (B g gl:Nat) (c:List Cd.Fn) (f:Cd.Fn) (ca ia:Option Addr) (cc ic lc:Nat) (pv:Value) (X:List Cd.Sh) (W:List Int) (wa:Option Addr) (wc:Nat) (w:World):Prop where
  gB:B≤g
  glB:B≤gl
  ne:g≠gl
  size:B≤w.heap.size
  tr:Cd.TrAt g w (.slice ca c.length cc) f pv (.slice ia f.ins.length ic) (.slice (some ⟨gl,0,none⟩) f.ins.length lc) (.slice wa W.length wc)
  lays:Cd.LaysAt gl w X
  len:X.length=f.ins.length
  row:w.ownsRow B 3 1 (.slice wa W.length wc) W.length (Cd.ints W)
  rg:(Value.slice wa W.length wc).ownBlock≠some g
  rl:(Value.slice wa W.length wc).ownBlock≠some gl
theorem Cd.row_keep {w w':World} {B e size n:Nat} {v:Value} {xs:List Value} (h:w.ownsRow B e size v n xs) (hk:∀ k,v.ownBlock=some k→w'.heap[k]? = w.heap[k]?):w'.ownsRow B e size v n xs:=by
  obtain ⟨h1,h2⟩:=h
  refine ⟨h1, ?_⟩
  rcases h2 with h2 | ⟨g,cap,cur,rfl,hB,hg,r⟩
  · exact .inl h2
  · exact .inr ⟨g,cap,cur,rfl,hB,(hk g rfl).trans hg,r⟩
theorem Cd.row_lt {w:World} {B e size n:Nat} {v:Value} {xs:List Value} (h:w.ownsRow B e size v n xs) {k:Nat} (hk:v.ownBlock=some k):k < w.heap.size:=by
  rcases h.2 with ⟨rfl,_⟩ | ⟨g,cap,cur,rfl,_,hg,_⟩
  · simp [Value.ownBlock] at hk
  · have:g=k:=by simpa [Value.ownBlock] using hk
    subst this
    exact (Array.getElem?_eq_some_iff.1 hg).1
theorem Cd.join_small : ∀ {a b:Cd.Sh},Cd.smallS a→Cd.smallS b→Cd.smallS (Cd.join a b)
  | .none,.none,_,_=>trivial
  | .none,.known _ _,_,h=>h
  | .none,.clash,_,_=>trivial
  | .known _ _,.none,h,_=>h
  | .known _ _,.clash,_,_=>trivial
  | .clash,.none,_,_=>trivial
  | .clash,.known _ _,_,_=>trivial
  | .clash,.clash,_,_=>trivial
  | .known s k,.known s' k',h,_=>by
    rw [Cd.join]
    by_cases e:k=k'
    · rw [if_pos e];exact ⟨Cd.agree_in h.1,h.2⟩
    · rw [if_neg e];trivial
theorem Cd.row_off {w:World} {B n:Nat} {v:Value} {xs:List Value} (h:w.ownsRow B 3 1 v n xs) {k:Nat} {cur:Array Value} {ty:TypeId} {fr:Nat × Nat} (hk:w.heap[k]? = some (.cells cur ty fr)) (hne:ty≠3):v.ownBlock≠some k:=fun e=>by
  rcases h.2 with ⟨rfl,_⟩ | ⟨g,cap,c2,rfl,_,hg,_⟩
  · simp [Value.ownBlock] at e
  · have:g=k:=by simpa [Value.ownBlock] using e
    subst this
    rw [hk] at hg
    injection hg with hg
    injection hg with _ h2
    exact hne h2
theorem Cd.TrSt.below {B g gl:Nat} {c:List Cd.Fn} {f:Cd.Fn} {ca ia:Option Addr} {cc ic lc:Nat} {pv:Value} {X:List Cd.Sh} {W:List Int} {wa:Option Addr} {wc:Nat} {w w':World} (h:Cd.TrSt B g gl c f ca ia cc ic lc pv X W wa wc w) (hb:Below w.heap.size w w'):Cd.TrSt B g gl c f ca ia cc ic lc pv X W wa wc w' :=
  ⟨h.gB,h.glB,h.ne,Nat.le_trans h.size hb.size,h.tr.below hb,h.lays.below hb,h.len,Cd.row_keep h.row (fun k hk=>hb.block k (Cd.row_lt h.row hk)),h.rg,h.rl⟩
structure Cd.Fr (g gl:Nat) (o o':Option Nat) (w w':World):Prop where
  keep:∀ k,k < w.heap.size→k≠g→k≠gl→o≠some k→w'.heap[k]? = w.heap[k]?
  own:∀ k,o'=some k→k < w.heap.size→o=some k
def Cd.ComesPost (B g gl:Nat) (c:List Cd.Fn) (f:Cd.Fn) (ca ia:Option Addr) (cc ic lc:Nat) (pv:Value) (X:List Cd.Sh) (W:List Int) (at':Nat) (J:Cd.Sh) (ch:Prop) (o:Option Nat) (w:World) (e:Ending) (w':World):Prop :=
  ∃ (W':List Int) (wa':Option Addr) (wc':Nat),e = .returned (.tuple #[])∧Cd.TrSt B g gl c f ca ia cc ic lc pv (X.set at' J) W' wa' wc' w'∧Below B w w'∧Cd.down W'∧W'.length≤W.length+1∧(∀ v,v ∈ W' ↔ v ∈ W∨(v=(at':Int)∧ch))∧Cd.Fr g gl o (Value.slice wa' W'.length wc').ownBlock w w'
theorem Cd.heap_set3 (V:World) (gl o:Nat) (x y z:Value) (k:Nat) (hk:k≠gl):(((V.setCell ⟨gl,o,none⟩ x).setCell ⟨gl,o+1,none⟩ y).setCell ⟨gl,o+2,none⟩ z).heap[k]? = V.heap[k]?:=by
  simp [World.setCell,Array.getElem?_modify,Ne.symm hk]
set_option maxRecDepth 100000 in
set_option maxHeartbeats 4000000 in
theorem Cd.comes_in (m:Nat) (hm:m≤200) (B g gl:Nat) (c:List Cd.Fn) (f:Cd.Fn) (_hil:f.ins.length≤50000) (ca ia:Option Addr) (cc ic lc:Nat) (pv:Value) (X:List Cd.Sh) (W:List Int) (wa:Option Addr) (wc:Nat) (w:World) (hS:Cd.TrSt B g gl c f ca ia cc ic lc pv X W wa wc w) (at':Nat) (hat:at' < f.ins.length) (a b:Cd.Sh) (ha:X[at']'(by rw [hS.len];exact hat)=a) (hbn:b ≠ .none) (la:Cd.len m a) (lb:Cd.len m b) (sa:Cd.smallS a) (sb:Cd.smallS b) (hdn:Cd.down W) (hwl:W.length≤50000) :
    Calls Tryz.prog 91 #[.pointer (some ⟨g,0,none⟩),.int .i64 (at':Int),Cd.lay b] w (Cd.ComesPost B g gl c f ca ia cc ic lc pv X W at' (Cd.join a b) (Cd.join a b≠a) (Value.slice wa W.length wc).ownBlock w):=by
  have hlt:at' < X.length:=by rw [hS.len];exact hat
  rw [Cd.lay_is]
  obtain ⟨bs0,hbs0⟩:∃ x,Cd.st b=x:=⟨_,rfl⟩
  obtain ⟨bs1,hbs1⟩:∃ x,Cd.sb b=x:=⟨_,rfl⟩
  obtain ⟨bs2,hbs2⟩:∃ x,Cd.kb b=x:=⟨_,rfl⟩
  rw [hbs0,hbs1,hbs2]
  obtain ⟨Y1,hY1⟩:∃ Y,w.alloc (.cells #[.int .i64 bs0,.string bs1,.string bs2] 168)=Y:=⟨_,rfl⟩
  have hb1:Below w.heap.size w Y1:=by rw [← hY1];exact Cd.b1 w _
  have p1:Y1.heap[w.heap.size]? = some (.cells #[.int .i64 bs0,.string bs1,.string bs2] 168):=by rw [← hY1];exact Cd.new_at w _
  obtain ⟨-,-,-,-,-,u5,u6,u7⟩:=(hS.tr.below hb1).cells
  obtain ⟨l0,l1,l2⟩:=(hS.lays.below hb1).cells at' hlt
  have y0:Y1.cell? ⟨w.heap.size,0,none⟩=some (.int .i64 bs0):=by rw [Lib.cell_of_heap p1];rfl
  have y1:Y1.cell? ⟨w.heap.size,1,none⟩=some (.string bs1):=by rw [Lib.cell_of_heap p1];rfl
  have y2:Y1.cell? ⟨w.heap.size,2,none⟩=some (.string bs2):=by rw [Lib.cell_of_heap p1];rfl
  have hne:((at':Int) == (f.ins.length:Int))=false:=by rw [beq_eq_false_iff_ne];omega
  have hatI:(at':Int) < (f.ins.length:Int):=by omega
  rw [ha] at l0 l1 l2
  obtain ⟨as0,has0⟩:∃ x,Cd.st a=x:=⟨_,rfl⟩
  obtain ⟨as1,has1⟩:∃ x,Cd.sb a=x:=⟨_,rfl⟩
  obtain ⟨as2,has2⟩:∃ x,Cd.kb a=x:=⟨_,rfl⟩
  rw [has0] at l0
  rw [has1] at l1
  rw [has2] at l2
  have HSS:Hid (Cd.TrSt B g gl c f ca ia cc ic lc pv X W wa wc w):=hS
  have hsY:Y1.heap.size=w.heap.size+1:=by rw [← hY1];exact World.size_alloc _ _
  have hgl:=hS.lays.lt
  have hgt:=hS.tr.lt
  have HS:Hid (∀ W,Below Y1.heap.size Y1 W→W.cell? ⟨g,6,none⟩=some (.slice (some ⟨gl,0,none⟩) f.ins.length lc)∧W.cell? ⟨gl,at' * 3,none⟩=some (.int .i64 as0)∧W.cell? ⟨gl,at' * 3+1,none⟩=some (.string as1)∧W.cell? ⟨gl,at' * 3+2,none⟩=some (.string as2)∧W.cell? ⟨w.heap.size,0,none⟩=some (.int .i64 bs0)∧W.cell? ⟨w.heap.size,1,none⟩=some (.string bs1)∧W.cell? ⟨w.heap.size,2,none⟩=some (.string bs2)):=fun W hW=>⟨(hW.cell (p:=⟨g,6,none⟩) (by show g < _;omega)).trans u6,(hW.cell (p:=⟨gl,at' * 3,none⟩) (by show gl < _;omega)).trans l0,(hW.cell (p:=⟨gl,at' * 3+1,none⟩) (by show gl < _;omega)).trans l1,(hW.cell (p:=⟨gl,at' * 3+2,none⟩) (by show gl < _;omega)).trans l2,(hW.cell (p:=⟨w.heap.size,0,none⟩) (by show w.heap.size < _;omega)).trans y0,(hW.cell (p:=⟨w.heap.size,1,none⟩) (by show w.heap.size < _;omega)).trans y1,(hW.cell (p:=⟨w.heap.size,2,none⟩) (by show w.heap.size < _;omega)).trans y2⟩
  obtain ⟨J,HJ⟩:∃ J,Hid (Cd.join a b=J):=⟨_,(rfl:Cd.join a b=_)⟩
  rw [HJ.out]
  have HMET:Hid (∀ W,Calls Tryz.prog 106 #[.agg #[.int .i64 as0,.string as1,.string as2],.agg #[.int .i64 bs0,.string bs1,.string bs2]] W fun e w'=>e = .returned (.agg #[.int .i64 (Cd.st J),.string (Cd.sb J),.string (Cd.kb J)])∧Below W.heap.size W w'):=fun W=>by
    have h:=Cd.met_any m hm a b hbn la lb sa sb W
    rw [Cd.lay_is,Cd.lay_is,Cd.lay_is,has0,has1,has2,hbs0,hbs1,hbs2,HJ.out] at h
    exact h
  obtain ⟨js0,hjs0⟩:∃ x,Cd.st J=x:=⟨_,rfl⟩
  obtain ⟨js1,hjs1⟩:∃ x,Cd.sb J=x:=⟨_,rfl⟩
  obtain ⟨js2,hjs2⟩:∃ x,Cd.kb J=x:=⟨_,rfl⟩
  rw [hjs0,hjs1,hjs2] at HMET
  have HJS:Hid (Cd.st J=js0∧Cd.sb J=js1∧Cd.kb J=js2):=⟨hjs0,hjs1,hjs2⟩
  have HSAME:Hid ((js0 == as0 && js1.toList == as1.toList && js2.toList == as2.toList)=decide (J=a)):=by
    rw [Hid,← hjs0,← hjs1,← hjs2,← has0,← has1,← has2]
    exact Cd.lay_same (by rw [← HJ.out];exact Cd.join_small sa sb) sa
  have HXA:Hid (X[at']'hlt=a):=ha
  have HDN:Hid (Cd.down W):=hdn
  have HGL:Hid (gl < w.heap.size∧g < w.heap.size∧g≠gl):=⟨hgl,hgt,hS.ne⟩
  have HFZ:Hid (∀ W j,Below Y1.heap.size Y1 W→W.frozen? ⟨gl,j,none⟩=false):=fun W j hW=>((hS.lays.below hb1).below hW).froz j
  clear hS p1 has0 has1 has2 hbs0 hbs1 hbs2 hjs0 hjs1 hjs2 ha hgl hgt
  go_enter Tryz.func91,Tryz.ntmps91
  go_wp2_with fail
  go_region_held3 (fun W=>W.cell? ⟨g,6,none⟩=some (.slice (some ⟨gl,0,none⟩) f.ins.length lc)∧W.cell? ⟨gl,at' * 3,none⟩=some (.int .i64 as0)∧W.cell? ⟨gl,at' * 3+1,none⟩=some (.string as1)∧W.cell? ⟨gl,at' * 3+2,none⟩=some (.string as2)∧W.cell? ⟨w.heap.size,0,none⟩=some (.int .i64 bs0)∧W.cell? ⟨w.heap.size,1,none⟩=some (.string bs1)∧W.cell? ⟨w.heap.size,2,none⟩=some (.string bs2)) (exact HS.out _ (by repeat' (first | exact hb3' | exact hb3'.size | exact Below.refl _ _ | apply Below.drew | refine Below.alloc ?_ ?_ _ | refine Below.setCell ?_ ?_ _ | exact Nat.le_refl _ | (simp;done) | (simp;omega)))) (first | (go_at_call 106;refine (HMET.out _).mono ?_;rintro e w3 ⟨rfl,hb3⟩;have hb3':=(show Below Y1.heap.size Y1 w3 from Below.trans (by repeat' (first | exact Below.refl _ _ | apply Below.drew | refine Below.alloc ?_ ?_ _ | refine Below.setCell ?_ ?_ _ | exact Nat.le_refl _ | (simp;done) | (simp;omega))) (hb3.mono (by first | exact Nat.le_refl _ | (simp;done) | (simp;omega))));try (have hz3:w3.heap[w.heap.size+1]? = some (.cells #[.int .i64 0,.string ⟨#[]⟩,.string ⟨#[]⟩] 168):=(by rw [← hsY];exact (hb3.block Y1.heap.size (by first | (simp;done) | (simp;omega))).trans (Cd.new_at Y1 _));have zc0:w3.cell? ⟨w.heap.size+1,0,none⟩=some (.int .i64 0):=(by rw [Lib.cell_of_heap hz3];rfl);have zc1:w3.cell? ⟨w.heap.size+1,1,none⟩=some (.string ⟨#[]⟩):=(by rw [Lib.cell_of_heap hz3];rfl);have zc2:w3.cell? ⟨w.heap.size+1,2,none⟩=some (.string ⟨#[]⟩):=(by rw [Lib.cell_of_heap hz3];rfl);have zf0:w3.frozen? ⟨w.heap.size+1,0,none⟩=false:=(by simp [World.frozen?,hz3]);have zf1:w3.frozen? ⟨w.heap.size+1,1,none⟩=false:=(by simp [World.frozen?,hz3]);have zf2:w3.frozen? ⟨w.heap.size+1,2,none⟩=false:=(by simp [World.frozen?,hz3]))))
  all_goals first
    | (obtain ⟨V,hV⟩:∃ V,w3.alloc (.cells #[.int .i64 js0,.string js1,.string js2] 168)=V:=⟨_,rfl⟩;rw [hV];obtain ⟨nb,hnb⟩:∃ b,w3.heap.size=b:=⟨_,rfl⟩;rw [hnb];have hbV:Below Y1.heap.size Y1 V:=(by rw [← hV];exact hb3'.alloc hb3'.size _);have hnv:V.heap[nb]? = some (.cells #[.int .i64 js0,.string js1,.string js2] 168):=(by rw [← hV,← hnb];exact Cd.new_at _ _);have hnB:Y1.heap.size≤nb:=(by rw [← hnb];exact hb3'.size))
    | (obtain ⟨V,hV⟩:∃ V,((w3.setCell ⟨w.heap.size+1,0,none⟩ (.int .i64 js0)).setCell ⟨w.heap.size+1,1,none⟩ (.string js1)).setCell ⟨w.heap.size+1,2,none⟩ (.string js2)=V:=⟨_,rfl⟩;rw [hV];obtain ⟨nb,hnb⟩:∃ b,w.heap.size+1=b:=⟨_,rfl⟩;rw [hnb];have hbV:Below Y1.heap.size Y1 V:=(by rw [← hV];exact ((hb3'.setCell (p:=⟨w.heap.size+1,0,none⟩) (by show Y1.heap.size≤w.heap.size+1;omega) _).setCell (p:=⟨w.heap.size+1,1,none⟩) (by show Y1.heap.size≤w.heap.size+1;omega) _).setCell (p:=⟨w.heap.size+1,2,none⟩) (by show Y1.heap.size≤w.heap.size+1;omega) _);have hnv:V.heap[nb]? = some (.cells #[.int .i64 js0,.string js1,.string js2] 168):=(by rw [← hV,← hnb];simp [World.setCell,Array.getElem?_modify,hz3]);have hnB:Y1.heap.size≤nb:=(by omega))
  all_goals
    obtain ⟨v6,va0,va1,va2,-,-,-⟩:=HS.out V hbV
    have n0:V.cell? ⟨nb,0,none⟩=some (.int .i64 js0):=by rw [Lib.cell_of_heap hnv];rfl
    have n1:V.cell? ⟨nb,1,none⟩=some (.string js1):=by rw [Lib.cell_of_heap hnv];rfl
    have n2:V.cell? ⟨nb,2,none⟩=some (.string js2):=by rw [Lib.cell_of_heap hnv];rfl
    clear hV hnb hb3 hb3'
    have heq:=Cd.eq_lay js0 as0 js1 js2 as1 as2
    have hgd:=Cd.guard_lay
    obtain ⟨bq,hbq⟩:∃ x,(js0 == as0 && js1.toList == as1.toList && js2.toList == as2.toList)=x:=⟨_,rfl⟩
    rw [hbq] at heq
    go_wp2_with fail
    go_quiet (fail)
  all_goals
    cases bq with
    | true =>
      go_wp2_with fail
      have hJ:J=a:=by
        have h:=HSAME.out
        rw [hbq] at h
        exact of_decide_eq_true h.symm
      have hXs:X.set at' J=X:=by rw [hJ,← HXA.out];exact List.set_getElem_self ..
      have hbw:Below w.heap.size w (V.drewN nq):=Cd.belowD _ (hb1.trans (hbV.mono hb1.size))
      refine bodyPost_ret (v:=.tuple #[]) (by simp [results,Tryz.results91,go_sem]) rfl ⟨W,wa,wc,rfl, ?_,hbw.mono HSS.out.size,HDN.out,by omega,fun v => ?_,⟨fun k hk _ _ _=>hbw.block k hk,fun k h _=>h⟩⟩
      · rw [hXs];exact HSS.out.below hbw
      · constructor
        · exact fun h => .inl h
        · rintro (h | ⟨_,h⟩)
          · exact h
          · exact (h hJ).elim
    | false =>
      have hbD:Below Y1.heap.size Y1 (V.drewN nq):=Cd.belowD _ hbV
      obtain ⟨V2,hV2⟩:∃ V2,V.drewN nq=V2:=⟨_,rfl⟩
      rw [hV2] at hbD ⊢
      have hnv2:V2.heap[nb]? = some (.cells #[.int .i64 js0,.string js1,.string js2] 168):=by rw [← hV2];exact hnv
      obtain ⟨w6,wa0,wa1,wa2,-,-,-⟩:=HS.out V2 hbD
      have m0:V2.cell? ⟨nb,0,none⟩=some (.int .i64 js0):=by rw [Lib.cell_of_heap hnv2];rfl
      have m1:V2.cell? ⟨nb,1,none⟩=some (.string js1):=by rw [Lib.cell_of_heap hnv2];rfl
      have m2:V2.cell? ⟨nb,2,none⟩=some (.string js2):=by rw [Lib.cell_of_heap hnv2];rfl
      clear hV2 heq v6 va0 va1 va2 n0 n1 n2 hnv hbV
      have hgn:g≠gl:=HGL.out.2.2
      have hnn:nb≠gl:=by have:=HGL.out.1;omega
      have HK:Hid (∀ U:World,(∀ k,k≠gl→U.heap[k]? = V2.heap[k]?)→U.cell? ⟨g,6,none⟩=some (.slice (some ⟨gl,0,none⟩) f.ins.length lc)∧U.cell? ⟨nb,0,none⟩=some (.int .i64 js0)∧U.cell? ⟨nb,1,none⟩=some (.string js1)∧U.cell? ⟨nb,2,none⟩=some (.string js2)):=fun U hW=>⟨(World.cell?_of_block (a:=⟨g,6,none⟩) (hW g hgn)).trans w6,(World.cell?_of_block (a:=⟨nb,0,none⟩) (hW nb hnn)).trans m0,(World.cell?_of_block (a:=⟨nb,1,none⟩) (hW nb hnn)).trans m1,(World.cell?_of_block (a:=⟨nb,2,none⟩) (hW nb hnn)).trans m2⟩
      have zf0:=HFZ.out V2 (at' * 3) hbD
      have zf1:=HFZ.out V2 (at' * 3+1) hbD
      have zf2:=HFZ.out V2 (at' * 3+2) hbD
      go_wp2_with fail
      go_region_held3 (fun W=>W.cell? ⟨g,6,none⟩=some (.slice (some ⟨gl,0,none⟩) f.ins.length lc)∧W.cell? ⟨nb,0,none⟩=some (.int .i64 js0)∧W.cell? ⟨nb,1,none⟩=some (.string js1)∧W.cell? ⟨nb,2,none⟩=some (.string js2)) (exact HK.out _ (fun k hk=>by first | rfl | exact Cd.heap_set3 V2 gl (at' * 3) (.int .i64 js0) (.string js1) (.string js2) k hk)) (fail)
      all_goals
        obtain ⟨V3,hV3⟩:∃ V3,(((V2.setCell ⟨gl,at' * 3,none⟩ (.int .i64 js0)).setCell ⟨gl,at' * 3+1,none⟩ (.string js1)).setCell ⟨gl,at' * 3+2,none⟩ (.string js2)).drew=V3:=⟨_,rfl⟩
        rw [hV3]
        have HV3:Hid (∀ k,k≠gl→V3.heap[k]? = V2.heap[k]?):=fun k hk=>by rw [← hV3];exact Cd.heap_set3 V2 gl (at' * 3) (.int .i64 js0) (.string js1) (.string js2) k hk
        have HKW:Hid (∀ k,k < w.heap.size→k≠gl→V3.heap[k]? = w.heap[k]?):=fun k hk hne=>((HV3.out k hne).trans (hbD.block k (by omega))).trans (hb1.block k hk)
        have HRW:Hid (V3.ownsRow B 3 1 (.slice wa W.length wc) W.length (Cd.ints W)):=Cd.row_keep HSS.out.row (fun k hk=>HKW.out k (Cd.row_lt HSS.out.row hk) (fun e=>HSS.out.rl (by rw [hk,e])))
        have HIW:Hid (Cd.IntsAt V3.heap.size V3 (.slice wa W.length wc) W):=Cd.IntsAt.own HRW.out (Nat.le_refl _)
        have g7:V3.cell? ⟨g,7,none⟩=some (.slice wa W.length wc):=by
          have h:=(HKW.out g HGL.out.2.1 hgn)
          rw [World.cell?_of_block (a:=⟨g,7,none⟩) h]
          exact (HSS.out.tr.cells).2.2.2.2.2.2.2
        have g7d:V3.drew.cell? ⟨g,7,none⟩=some (.slice wa W.length wc):=by rw [World.drew_is_drewN,World.cell?_drewN];exact g7
        have HSE:Hid (Calls Tryz.prog 107 #[.slice wa W.length wc,.int .i64 (at':Int),.func (Fn.func 108) #[] #[]] V3 (Cd.SearchPost W (at':Int) V3)):=Cd.search_any W (at':Int) hdn wa wc (by omega) _ V3 HIW.out
        have HTR3:Hid (Cd.TrAt g V3 (.slice ca c.length cc) f pv (.slice ia f.ins.length ic) (.slice (some ⟨gl,0,none⟩) f.ins.length lc) (.slice wa W.length wc)):=⟨(HKW.out g HGL.out.2.1 hgn).trans HSS.out.tr.blk⟩
        have HLA3:Hid (Cd.LaysAt gl V3 (X.set at' J)):=by
          rw [Hid,← hV3,← HJS.out.1,← HJS.out.2.1,← HJS.out.2.2]
          exact Cd.LaysAt.store ((HSS.out.lays.below hb1).below hbD) at' hlt J
        have HBB:Hid (Below B w V3∧B≤V3.heap.size):=by
          have h2:Below B w V2:=(hb1.trans (hbD.mono hb1.size)).mono HSS.out.size
          have h3:Below B w V3:=by
            rw [← hV3]
            exact (((h2.setCell (p:=⟨gl,at' * 3,none⟩) HSS.out.glB _).setCell (p:=⟨gl,at' * 3+1,none⟩) HSS.out.glB _).setCell (p:=⟨gl,at' * 3+2,none⟩) HSS.out.glB _).drew
          exact ⟨h3,Nat.le_trans HSS.out.size h3.size⟩
        have HST3:Hid True:=trivial
        clear hV3 w6 m0 m1 m2 zf0 zf1 zf2
        by_cases hmem:(at':Int) ∈ W
        · have HMEM:Hid (decide ((at':Int) ∈ W)=true):=by rw [Hid];simp [hmem]
          clear hmem
          go_wp2_with (first | (go_at_call 107;refine HSE.out.mono ?_;rintro e w4 ⟨⟨i,b,rfl,hsi⟩,rfl⟩;have hbb:b=true:=(by rw [hsi.2.2.2];exact HMEM.out);subst hbb;have HSI:Hid (Cd.SearchIs W (at':Int) i true):=hsi;clear hsi))
          have hst:=HST3.out
          first | go_end0 | skip
          exact ⟨W,wa,wc,by first | rfl | simp,⟨HSS.out.gB,HSS.out.glB,HSS.out.ne,HBB.out.2,HTR3.out,HLA3.out,by rw [List.length_set];exact HSS.out.len,HRW.out,HSS.out.rg,HSS.out.rl⟩,HBB.out.1,HDN.out,by omega,fun v=>⟨fun h => .inl h,fun h=>by
            rcases h with h | ⟨h,_⟩
            · exact h
            · rw [h];exact of_decide_eq_true HMEM.out⟩,⟨fun k hk _ hl _=>HKW.out k hk hl,fun k h _=>h⟩⟩
        · have HMEM:Hid (decide ((at':Int) ∈ W)=false):=by rw [Hid];simp [hmem]
          clear hmem
          have HNJ:Hid (J≠a):=fun e=>by
            have h:=HSAME.out
            rw [hbq,e] at h
            simp at h
          obtain ⟨Vq,hVq⟩:∃ Vq,V3.alloc (.cells #[.int .i64 (at':Int)] 3)=Vq:=⟨_,rfl⟩
          have HQB:Hid (Below V3.heap.size V3 Vq):=by rw [Hid,← hVq];exact Cd.b1 _ _
          have HROW:Hid (Vq.ownsRow B 3 1 (.slice wa W.length wc) W.length (Cd.ints W)):=Cd.row_keep HRW.out (fun k hk=>HQB.out.block k (Cd.row_lt HRW.out hk))
          have HINS:Hid (∀ i,Cd.SearchIs W (at':Int) i false→Calls Tryz.prog 109 #[.slice wa W.length wc,.int .i64 (i:Int),.slice (some ⟨V3.heap.size,0,none⟩) 1 1] Vq (Cd.InsertPost B (W.take i++[(at':Int)]++W.drop i) (Value.slice wa W.length wc).ownBlock Vq)):=fun i hi=>Cd.insert_any B W W.length i rfl hi.1 (at':Int) wa wc V3.heap.size Vq (by omega) (Nat.le_trans HBB.out.2 HQB.out.size) HROW.out (by rw [← hVq];exact Cd.new_at _ _) (fun e=>absurd (Cd.row_lt HRW.out e) (by omega))
          have HT9:Hid (∀ w9:World,Vq.grownBy w9 (Value.slice wa W.length wc).ownBlock→w9.heap[g]? = some (.cells #[.slice ca c.length cc,.string f.name,pv,.int .i64 f.result,.int .i64 f.slots,.slice ia f.ins.length ic,.slice (some ⟨gl,0,none⟩) f.ins.length lc,.slice wa W.length wc] 165 (0,0))∧w9.heap[gl]? = V3.heap[gl]?):=fun w9 h9=>by
            have hg3:g < V3.heap.size:=HTR3.out.lt
            have hl3:gl < V3.heap.size:=HLA3.out.lt
            exact ⟨((h9.block g (Nat.lt_of_lt_of_le hg3 HQB.out.size) (fun e=>HSS.out.rg e.symm)).trans (HQB.out.block g hg3)).trans HTR3.out.blk,(h9.block gl (Nat.lt_of_lt_of_le hl3 HQB.out.size) (fun e=>HSS.out.rl e.symm)).trans (HQB.out.block gl hl3)⟩
          have HVQ:Hid (V3.alloc (.cells #[.int .i64 (at':Int)] 3)=Vq):=hVq
          clear hVq
          go_wp2_with (first | (go_at_call 107;refine HSE.out.mono ?_;rintro e w4 ⟨⟨i,b,rfl,hsi⟩,rfl⟩;have hbb:b=false:=(by rw [hsi.2.2.2];exact HMEM.out);subst hbb;have HSI:Hid (Cd.SearchIs W (at':Int) i false):=hsi;clear hsi) | (go_at_call 109;rw [HVQ.out];refine (HINS.out i HSI.out).mono ?_;rintro e w9 ⟨a9,cap9,rfl,hown9,hg9,hfr9⟩;obtain ⟨N2,HN2⟩:∃ n,Hid ((W.take i++[(at':Int)]++W.drop i).length=n):=⟨_,(rfl:(W.take i++[(at':Int)]++W.drop i).length=_)⟩;rw [HN2.out] at hown9 hfr9 ⊢;obtain ⟨t9,l9⟩:=HT9.out w9 hg9;have c7:w9.cell? ⟨g,7,none⟩=some (.slice wa W.length wc):=(by rw [Lib.cell_of_heap t9];rfl);have f7:w9.frozen? ⟨g,7,none⟩=false:=(by simp [World.frozen?,t9])))
          have hoff:=Cd.row_off hown9 t9 (by decide)
          have hoffl:(Value.slice a9 N2 cap9).ownBlock≠some gl:=by
            obtain ⟨cs,q1,-⟩:=HLA3.out.blk
            exact Cd.row_off hown9 (l9.trans q1) (by decide)
          have hset:∀ k,k≠g→(w9.setCell ⟨g,7,none⟩ (.slice a9 N2 cap9)).heap[k]? = w9.heap[k]?:=fun k hk=>by simp [World.setCell,Array.getElem?_modify,Ne.symm hk]
          have htr:(w9.setCell ⟨g,7,none⟩ (.slice a9 N2 cap9)).heap[g]? = some (.cells #[.slice ca c.length cc,.string f.name,pv,.int .i64 f.result,.int .i64 f.slots,.slice ia f.ins.length ic,.slice (some ⟨gl,0,none⟩) f.ins.length lc,.slice a9 N2 cap9] 165 (0,0)):=by simp [World.setCell,Array.getElem?_modify,t9]
          have hla:Cd.LaysAt gl (w9.setCell ⟨g,7,none⟩ (.slice a9 N2 cap9)) (X.set at' J):=by
            obtain ⟨cs,q1,q2⟩:=HLA3.out.blk
            exact ⟨cs,((hset gl (Ne.symm hgn)).trans l9).trans q1,q2⟩
          have hrw:(w9.setCell ⟨g,7,none⟩ (.slice a9 N2 cap9)).ownsRow B 3 1 (.slice a9 N2 cap9) N2 (Cd.ints (W.take i++[(at':Int)]++W.drop i)):=Cd.row_keep hown9 (fun k hk=>hset k (fun e=>hoff (by rw [hk,e])))
          have hbq2:Below B w Vq:=HBB.out.1.trans (HQB.out.mono HBB.out.2)
          have hb9:Below B w w9:=Cd.Below.grown hbq2 hg9 (Nat.le_trans HBB.out.2 HQB.out.size) (fun k hk=>Cd.rowBlk HROW.out hk)
          have hbe:Below B w (w9.setCell ⟨g,7,none⟩ (.slice a9 N2 cap9)):=hb9.setCell (p:=⟨g,7,none⟩) HSS.out.gB _
          have hlen:(W.take i++[(at':Int)]++W.drop i).length≤W.length+1:=by simp;omega
          have hN:=HN2.out
          first | go_end0 | skip
          subst hN
          exact ⟨W.take i++[(at':Int)]++W.drop i,a9,cap9,by first | rfl | simp,⟨HSS.out.gB,HSS.out.glB,HSS.out.ne,Nat.le_trans HSS.out.size hbe.size,⟨htr⟩,hla,by rw [List.length_set];exact HSS.out.len,hrw,hoff,hoffl⟩,hbe,Cd.down_ins HDN.out HSI.out,hlen,fun v=>⟨fun h=>by
            rcases (Cd.mem_ins W (at':Int) i v).1 h with h | h
            · exact .inl h
            · exact .inr ⟨h,HNJ.out⟩,fun h=>(Cd.mem_ins W (at':Int) i v).2 (by
            rcases h with h | ⟨h,_⟩
            · exact .inl h
            · exact .inr h)⟩,⟨fun k hk hkg hkl hko=>((hset k hkg).trans (hg9.block k (Nat.lt_of_lt_of_le hk (Nat.le_trans HBB.out.1.size HQB.out.size)) (fun e=>hko e.symm))).trans ((HQB.out.block k (Nat.lt_of_lt_of_le hk HBB.out.1.size)).trans (HKW.out k hk hkl)),fun k h hk=>by
            rcases hfr9 with e | e
            · exact e.symm.trans h
            · rw [e] at h
              injection h with h
              have:=Nat.le_trans HBB.out.1.size HQB.out.size
              omega⟩⟩
end Go.Proofs.YtbkhedpabfanoaaGreatDoor
namespace Go.Proofs.YtbkhedpabfanoaaGreatDoor
open Go.RowKit

set_option maxRecDepth 100000 in
set_option maxHeartbeats 2000000 in
theorem Cd.comes_out (B g gl:Nat) (c:List Cd.Fn) (f:Cd.Fn) (_hil:f.ins.length≤50000) (ca ia:Option Addr) (cc ic lc:Nat) (pv:Value) (X:List Cd.Sh) (W:List Int) (wa:Option Addr) (wc:Nat) (w:World) (hS:Cd.TrSt B g gl c f ca ia cc ic lc pv X W wa wc w) (at':Nat) (hat:at'=f.ins.length) (b:Cd.Sh) :
    Calls Tryz.prog 91 #[.pointer (some ⟨g,0,none⟩),.int .i64 (at':Int),Cd.lay b] w fun e w'=>e = .returned (.tuple #[])∧Cd.TrSt B g gl c f ca ia cc ic lc pv X W wa wc w'∧Below w.heap.size w w':=by
  rw [Cd.lay_is]
  obtain ⟨bs0,hbs0⟩:∃ x,Cd.st b=x:=⟨_,rfl⟩
  obtain ⟨bs1,hbs1⟩:∃ x,Cd.sb b=x:=⟨_,rfl⟩
  obtain ⟨bs2,hbs2⟩:∃ x,Cd.kb b=x:=⟨_,rfl⟩
  rw [hbs0,hbs1,hbs2]
  obtain ⟨Y1,hY1⟩:∃ Y,w.alloc (.cells #[.int .i64 bs0,.string bs1,.string bs2] 168)=Y:=⟨_,rfl⟩
  have hb1:Below w.heap.size w Y1:=by rw [← hY1];exact Cd.b1 w _
  obtain ⟨-,-,-,-,-,u5,u6,u7⟩:=(hS.tr.below hb1).cells
  have heq:((at':Int) == (f.ins.length:Int))=true:=by rw [hat];simp
  have HSS:Hid (Cd.TrSt B g gl c f ca ia cc ic lc pv X W wa wc w):=hS
  clear hS hat hbs0 hbs1 hbs2
  go_enter Tryz.func91,Tryz.ntmps91
  go_wp2_with fail
  exact bodyPost_ret (v:=.tuple #[]) (by simp [results,Tryz.results91,go_sem]) rfl ⟨rfl,HSS.out.below hb1,hb1⟩
end Go.Proofs.YtbkhedpabfanoaaGreatDoor
namespace Go.Proofs.YtbkhedpabfanoaaGreatDoor
open Go.RowKit

theorem Cd.TrSt.leftIn {B g gl:Nat} {c:List Cd.Fn} {f:Cd.Fn} {ca ia:Option Addr} {cc ic lc:Nat} {pv:Value} {X:List Cd.Sh} {W:List Int} {wa:Option Addr} {wc:Nat} {w:World} (h:Cd.TrSt B g gl c f ca ia cc ic lc pv X W wa wc w) (hI:Cd.InsAt B w (.slice ia f.ins.length ic) f.ins) (hC:Cd.CodeAt B w (.slice ca c.length cc) c) (hT:Cd.InsTab w) (hW:Cd.WordTab w) (at':Nat):Cd.LeftIn c f at' ca ia cc ic lc gl g X pv (.slice wa W.length wc) w :=
  ⟨h.tr,h.lays,Cd.InsAt.mono hI h.size,Cd.CodeAt.mono hC h.size,hT,hW⟩
theorem Cd.run_st (U:World) (st:Int) (a b:Value):Sem.run Tryz.prog (Instr.field 168 (.agg #[.int .i64 st,a,b]) 0) U = .ok (.int .i64 st) U:=by
  simp [Instr.field,run_underlying Tryz.underlying168,go_sem,asAgg]
end Go.Proofs.YtbkhedpabfanoaaGreatDoor
namespace Go.Proofs.YtbkhedpabfanoaaGreatDoor
open Go.RowKit

def Cd.FirstPost (c:List Cd.Fn) (f:Cd.Fn) (X:List Cd.Sh) (w:World) (e:Ending) (w':World):Prop :=
  ((∃ u:Nat,u < f.ins.length∧e = .returned (.int .i64 (u:Int))∧Cd.unfit c f X u=true∧∀ j,j < u→Cd.unfit c f X j=false)∨(e = .returned (.int .i64 (-1))∧∀ j,j < f.ins.length→Cd.unfit c f X j=false))∧Below w.heap.size w w'
set_option maxRecDepth 100000 in
set_option maxHeartbeats 4000000 in
theorem Cd.first_any (B g gl:Nat) (c:List Cd.Fn) (f:Cd.Fn) (hR:Cd.Right c f) (ca ia:Option Addr) (cc ic lc:Nat) (pv:Value) (X:List Cd.Sh) (W:List Int) (wa:Option Addr) (wc:Nat) (w:World) (hS:Cd.TrSt B g gl c f ca ia cc ic lc pv X W wa wc w) (hI:Cd.InsAt B w (.slice ia f.ins.length ic) f.ins) (hC:Cd.CodeAt B w (.slice ca c.length cc) c) (hT:Cd.InsTab w) (hW:Cd.WordTab w) (hfine:∀ u,Cd.fine (Cd.at' X u)) (hlens:∀ u,Cd.len f.slots.toNat (Cd.at' X u)) :
    Calls Tryz.prog 74 #[.pointer (some ⟨g,0,none⟩)] w (Cd.FirstPost c f X w):=by
  have HIN:Hid (∀ U at',Below w.heap.size w U→Cd.LeftIn c f at' ca ia cc ic lc gl g X pv (.slice wa W.length wc) U):=fun U at' hU=>(hS.leftIn hI hC hT hW at').below hU
  have HXL:Hid (X.length=f.ins.length):=hS.len
  have hil:=hR.il
  have HR:Hid (Cd.Right c f):=hR
  have HFI:Hid (∀ u,Cd.fine (Cd.at' X u)):=hfine
  have HLE:Hid (∀ u,Cd.len f.slots.toNat (Cd.at' X u)):=hlens
  obtain ⟨-,-,-,-,-,-,u6,-⟩:=hS.tr.cells
  clear hS hI hC hT hW hfine hlens hR
  have hfld:∀ (U:World) (st:Int) (a b:Value),Sem.run Tryz.prog (Instr.field 168 (.agg #[.int .i64 st,a,b]) 0) U = .ok (.int .i64 st) U:=Cd.run_st
  go_enter Tryz.func74,Tryz.ntmps74
  go_wp2_with fail
  go_loopw [10] (fun t wr => ∃ u:Nat,u≤f.ins.length∧t = .int .i64 (u:Int)∧Below w.heap.size w wr∧Hid (∀ j,j < u→Cd.unfit c f X j=false)) (fun t _=>f.ins.length - (intOf t).toNat)
  case atStart=>exact ⟨0,by omega,rfl,Below.refl _ _,fun j h=>by omega⟩
  case round =>
    obtain ⟨u,hu,rfl,hbr,HU⟩:=hrel
    by_cases hlt:u < f.ins.length
    · have hltI:(u:Int) < (f.ins.length:Int):=by omega
      have hux:u < X.length:=by rw [HXL.out];exact hlt
      obtain ⟨l0,l1,l2⟩:=(HIN.out wr u hbr).lays.cells u hux
      obtain ⟨sh,HSH⟩:∃ sh,Hid (X[u]'hux=sh):=⟨_,(rfl:X[u]'hux=_)⟩
      rw [HSH.out] at l0 l1 l2
      have HAT:Hid (Cd.at' X u=sh):=by
        rw [Hid,Cd.at',List.getD_eq_getElem?_getD,List.getElem?_eq_getElem hux];exact HSH.out
      obtain ⟨U,hU⟩:∃ U,wr.alloc (.cells #[.int .i64 (Cd.st sh),.string (Cd.sb sh),.string (Cd.kb sh)] 168)=U:=⟨_,rfl⟩
      have hbU:Below w.heap.size w U:=by rw [← hU];exact hbr.alloc hbr.size _
      have q0:U.cell? ⟨wr.heap.size,0,none⟩=some (.int .i64 (Cd.st sh)):=by
        have h:U.heap[wr.heap.size]? = some (.cells #[.int .i64 (Cd.st sh),.string (Cd.sb sh),.string (Cd.kb sh)] 168):=by rw [← hU];exact Cd.new_at _ _
        rw [Lib.cell_of_heap h];rfl
      obtain ⟨s0,hs0⟩:∃ x,Cd.st sh=x:=⟨_,rfl⟩
      obtain ⟨s1,hs1⟩:∃ x,Cd.sb sh=x:=⟨_,rfl⟩
      obtain ⟨s2,hs2⟩:∃ x,Cd.kb sh=x:=⟨_,rfl⟩
      rw [hs0] at l0 q0 hU
      rw [hs1] at l1 hU
      rw [hs2] at l2 hU
      by_cases hn:sh = .none
      · have hz:(s0 != 0)=false:=by rw [← hs0,hn];rfl
        have HU2:Hid (∀ j,j < u+1→Cd.unfit c f X j=false):=fun j hj=>by
          by_cases e:j=u
          · subst e;unfold Cd.unfit;rw [HAT.out,hn];simp
          · exact HU.out j (by omega)
        clear hs0 hs1 hs2 hn
        go_wp2_with fail
        go_roundw
        case rel=>exact ⟨u+1,by omega,by go_num,hbU,HU2⟩
        case measure=>simp [intOf];omega
      · have hz:(s0 != 0)=true:=by
          rw [← hs0];cases sh with
          | none=>exact (hn rfl).elim
          | known _ _=>rfl
          | clash=>rfl
        obtain ⟨K,HK⟩:∃ K,Hid (Cd.behind c f u sh=K):=⟨_,(rfl:Cd.behind c f u sh=_)⟩
        have HLEFT:Hid (Calls Tryz.prog 92 #[.pointer (some ⟨g,0,none⟩),.int .i64 (u:Int)] U fun e w'=>e = .returned (.agg #[.int .i64 (Cd.st K),.string (Cd.sb K),.string (Cd.kb K)])∧Below U.heap.size U w'):=by
          have h:=Cd.left_any c f HR.out u hlt X HXL.out sh HSH.out hn (by rw [← HAT.out];exact HFI.out u) (by rw [← HAT.out];exact HLE.out u) ca ia cc ic pv _ lc gl g U (HIN.out U u hbU)
          rw [HK.out,Cd.lay_is] at h
          exact h
        have HUF:Hid (Cd.unfit c f X u=decide (K = .clash)):=by
          rw [Hid,Cd.unfit,HAT.out,HK.out];simp [hn]
        clear hs0 hs1 hs2 hn
        by_cases hk:K = .clash
        · have hk2:(Cd.st K == 2)=true:=by rw [hk];rfl
          have HYES:Hid (Cd.unfit c f X u=true):=by rw [Hid,HUF.out];simp [hk]
          clear hk
          go_wp2_with (first | (go_at_call 92;refine HLEFT.out.mono ?_;rintro e w3 ⟨rfl,hb3⟩))
          go_ret
          exact ⟨.inl ⟨u,hlt,rfl,HYES.out,HU.out⟩,hbU.trans (hb3.mono hbU.size)⟩
        · have hk2:(Cd.st K == 2)=false:=by cases K <;> first | rfl | exact (hk rfl).elim
          have HU2:Hid (∀ j,j < u+1→Cd.unfit c f X j=false):=fun j hj=>by
            by_cases e:j=u
            · subst e;rw [HUF.out];simp [hk]
            · exact HU.out j (by omega)
          clear hk
          go_wp2_with (first | (go_at_call 92;refine HLEFT.out.mono ?_;rintro e w3 ⟨rfl,hb3⟩))
          go_roundw
          case rel=>exact ⟨u+1,by omega,by go_num,hbU.trans (hb3.mono hbU.size),HU2⟩
          case measure=>simp [intOf];omega
    · have hltI:¬ (u:Int) < (f.ins.length:Int):=by omega
      have HALL:Hid (∀ j,j < f.ins.length→Cd.unfit c f X j=false):=fun j hj=>HU.out j (by omega)
      go_wp2_with fail
      go_ret
      exact ⟨.inr ⟨rfl,HALL.out⟩,hbr⟩
end Go.Proofs.YtbkhedpabfanoaaGreatDoor
