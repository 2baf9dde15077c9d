import Derived.Test.YtbkhedpabfanoaaGreatDoorKWalD
namespace Go.Proofs.YtbkhedpabfanoaaGreatDoor
open Go.RowKit

def Cd.numL (name:ByteArray):List Cd.Fn→Nat→Int
  | [],_ => -1
  | f::r,k=>if (f.name.toList == name.toList)=true then (k:Int) else Cd.numL name r (k+1)
def Cd.num (c:List Cd.Fn) (name:ByteArray):Int:=Cd.numL name c 0
theorem Cd.numL_at (name:ByteArray):∀ (l:List Cd.Fn) (k j:Nat) (hj:j < l.length),(∀ i (hi:i < l.length),i < j→(l[i].name.toList == name.toList)=false)→(l[j].name.toList == name.toList)=true→Cd.numL name l k=((k+j:Nat):Int)
  | [],_,j,hj,_,_=>by simp at hj
  | f::r,k,0,_,_,h=>by
    rw [Cd.numL,if_pos (by simpa using h)];rfl
  | f::r,k,j+1,hj,hn,h=>by
    have h0:=hn 0 (by simp) (by omega)
    rw [Cd.numL,if_neg (by simpa using h0),Cd.numL_at name r (k+1) j (by simpa using hj) (fun i hi hij=>hn (i+1) (Nat.succ_lt_succ hi) (by omega)) h]
    congr 1;omega
theorem Cd.numL_no (name:ByteArray):∀ (l:List Cd.Fn) (k:Nat),(∀ i (hi:i < l.length),(l[i].name.toList == name.toList)=false)→Cd.numL name l k = -1
  | [],_,_=>rfl
  | f::r,k,hn=>by
    have h0:=hn 0 (by simp)
    rw [Cd.numL,if_neg (by simpa using h0)]
    exact Cd.numL_no name r (k+1) (fun i hi=>hn (i+1) (Nat.succ_lt_succ hi))
set_option maxRecDepth 100000 in
set_option maxHeartbeats 1000000 in
theorem Cd.clos_any (f:Cd.Fn) (pv iv:Value) (p:Nat) (name:ByteArray) (w:World) (hp:w.heap[p]? = some (.cells #[.string name] 9)) :
    Calls Tryz.prog 102 #[.agg #[.string f.name,pv,.int .i64 f.result,.int .i64 f.slots,iv],.pointer (some ⟨p,0,none⟩)] w fun e w'=>e = .returned (.bool (f.name.toList == name.toList))∧Below w.heap.size w w':=by
  have hlt:p < w.heap.size:=(Array.getElem?_eq_some_iff.1 hp).1
  obtain ⟨Y1,hY1⟩:∃ Y,w.alloc (.cells #[.string f.name,pv,.int .i64 f.result,.int .i64 f.slots,iv] 37)=Y:=⟨_,rfl⟩
  have hb1:Below w.heap.size w Y1:=by rw [← hY1];exact Cd.b1 w _
  have q0:Y1.cell? ⟨w.heap.size,0,none⟩=some (.string f.name):=by rw [← hY1];exact Cd.new_cell w _ _ 0 _ rfl
  have q1:Y1.cell? ⟨p,0,none⟩=some (.string name):=by rw [hb1.cell (p:=⟨p,0,none⟩) hlt,Lib.cell_of_heap hp];rfl
  go_enter Tryz.func102,Tryz.ntmps102
  go_wp2_with fail
  go_ret
  exact ⟨rfl,hb1⟩
set_option maxRecDepth 100000 in
set_option maxHeartbeats 1000000 in
theorem Cd.idx_any (c:List Cd.Fn) (a:Option Addr) (cap p:Nat) (name:ByteArray) (hcl:c.length≤1048576) (w:World) (B:Nat) (hB:B≤w.heap.size) (hC:Cd.CodeAt B w (.slice a c.length cap) c) (hp:w.heap[p]? = some (.cells #[.string name] 9)) :
    Calls Tryz.prog 101 #[.slice a c.length cap,.func (Fn.func 102) #[] #[.pointer (some ⟨p,0,none⟩)]] w fun e w'=>e = .returned (.int .i64 (Cd.num c name))∧Below w.heap.size w w':=by
  have HC:Hid (Cd.CodeAt B w (.slice a c.length cap) c):=hC
  have HP:Hid (w.heap[p]? = some (.cells #[.string name] 9)):=hp
  clear hC hp
  obtain ⟨r,HR⟩:∃ r,Hid (Cd.num c name=r):=⟨_,(rfl:Cd.num c name=_)⟩
  rw [HR.out]
  go_enter Tryz.func101,Tryz.ntmps101
  go_wp2_with fail
  go_loopw [8] (fun t wr => ∃ i:Nat,i≤c.length∧t = .int .i64 (i:Int)∧Below w.heap.size w wr∧∀ j (hj:j < c.length),j < i→(c[j].name.toList == name.toList)=false) (fun t _=>c.length - (intOf t).toNat)
  case atStart=>exact ⟨0,by omega,rfl,Below.refl _ _,fun j hj h=>by omega⟩
  case round =>
    obtain ⟨i,hi,rfl,hbr,hno⟩:=hrel
    have HBR:Hid (Below w.heap.size w wr):=hbr
    have HNO:Hid (∀ j (hj:j < c.length),j < i→(c[j].name.toList == name.toList)=false):=hno
    clear hbr hno
    by_cases hlt:i < c.length
    · have hltI:(i:Int) < (c.length:Int):=by omega
      obtain ⟨g,cap',pa,pc,ia,ic,ev,hg,d0,d1,d2,d3,d4,-,-⟩:=(HC.out.below (HBR.out.mono hB)).fn i hlt
      injection ev with ev1 ev2 ev3
      subst ev1
      have hplt:p < w.heap.size:=(Array.getElem?_eq_some_iff.1 HP.out).1
      have HPR:Hid (wr.heap[p]? = some (.cells #[.string name] 9)):=(HBR.out.block p hplt).trans HP.out
      obtain ⟨b,HBQ⟩:∃ b,Hid ((c[i].name.toList == name.toList)=b):=⟨_,(rfl:(c[i].name.toList == name.toList)=_)⟩
      obtain ⟨f,HF⟩:∃ f,Hid (c[i]=f):=⟨_,(rfl:c[i]=_)⟩
      rw [HF.out] at d0 d1 d2 d3 d4
      have HCL:Hid (Calls Tryz.prog 102 #[.agg #[.string f.name,.slice pa f.params.length pc,.int .i64 f.result,.int .i64 f.slots,.slice ia f.ins.length ic],.pointer (some ⟨p,0,none⟩)] wr fun e w'=>e = .returned (.bool b)∧Below wr.heap.size wr w'):=by
        have h:=Cd.clos_any f (.slice pa f.params.length pc) (.slice ia f.ins.length ic) p name wr HPR.out
        rw [← HF.out,HBQ.out] at h
        rw [← HF.out]
        exact h
      clear ev2 ev3
      cases b with
      | true =>
        have HRI:Hid (((i:Nat):Int)=r):=by
          rw [Hid,← HR.out,Cd.num,Cd.numL_at name c 0 i hlt HNO.out HBQ.out,Nat.zero_add]
        go_wp2_with (first | (go_at_call 102;refine HCL.out.mono ?_;rintro e w7 ⟨rfl,hb7⟩))
        go_ret
        exact ⟨Cd.ret_int HRI.out,HBR.out.trans (hb7.mono HBR.out.size)⟩
      | false =>
        have HNX:Hid (∀ j (hj:j < c.length),j < i+1→(c[j].name.toList == name.toList)=false):=fun j hj h=>by
          by_cases e:j=i
          · subst e;exact HBQ.out
          · exact HNO.out j hj (by omega)
        go_wp2_with (first | (go_at_call 102;refine HCL.out.mono ?_;rintro e w7 ⟨rfl,hb7⟩))
        go_roundw
        case rel=>exact ⟨i+1,by omega,by go_num,HBR.out.trans (hb7.mono HBR.out.size),HNX.out⟩
        case measure=>simp [intOf];omega
    · have hltI:¬ (i:Int) < (c.length:Int):=by omega
      have HRI:Hid ((-1:Int)=r):=by
        rw [Hid,← HR.out,Cd.num,Cd.numL_no name c 0 (fun j hj=>HNO.out j hj (by omega))]
      go_wp2_with fail
      go_ret
      exact ⟨Cd.ret_int HRI.out,HBR.out⟩
end Go.Proofs.YtbkhedpabfanoaaGreatDoor
namespace Go.Proofs.YtbkhedpabfanoaaGreatDoor
open Go.RowKit

set_option maxRecDepth 100000 in
set_option maxHeartbeats 1000000 in
theorem Cd.number_any (c:List Cd.Fn) (a:Option Addr) (cap:Nat) (name:ByteArray) (hcl:c.length≤1048576) (B:Nat) (w:World) (hB:B≤w.heap.size) (hC:Cd.CodeAt B w (.slice a c.length cap) c) :
    Calls Tryz.prog 85 #[.slice a c.length cap,.string name] w fun e w'=>e = .returned (.int .i64 (Cd.num c name))∧Below w.heap.size w w':=by
  obtain ⟨Y1,hY1⟩:∃ Y,w.alloc (.cells #[.string name] 9)=Y:=⟨_,rfl⟩
  have hb1:Below w.heap.size w Y1:=by rw [← hY1];exact Cd.b1 w _
  have hs1:Y1.heap.size=w.heap.size+1:=by rw [← hY1];exact World.size_alloc _ _
  have HI:Hid (Calls Tryz.prog 101 #[.slice a c.length cap,.func (Fn.func 102) #[] #[.pointer (some ⟨w.heap.size,0,none⟩)]] Y1 fun e w'=>e = .returned (.int .i64 (Cd.num c name))∧Below Y1.heap.size Y1 w'):=Cd.idx_any c a cap w.heap.size name hcl Y1 B (by omega) (hC.below (hb1.mono hB)) (by rw [← hY1];exact Cd.new_at w _)
  obtain ⟨r,HR⟩:∃ r,Hid (Cd.num c name=r):=⟨_,(rfl:Cd.num c name=_)⟩
  rw [HR.out] at HI ⊢
  clear hC
  go_enter Tryz.func85,Tryz.ntmps85
  go_wp2_with (first | (go_at_call 101;refine HI.out.mono ?_;rintro e w7 ⟨rfl,hb7⟩))
  go_ret
  exact ⟨rfl,hb1.trans (hb7.mono hb1.size)⟩
theorem Cd.numL_cases (name:ByteArray):∀ (l:List Cd.Fn) (k:Nat),(Cd.numL name l k = -1∧∀ i (hi:i < l.length),(l[i].name.toList == name.toList)=false)∨∃ j,∃ (hj:j < l.length),Cd.numL name l k=((k+j:Nat):Int)∧(l[j].name.toList == name.toList)=true∧∀ i (hi:i < l.length),i < j→(l[i].name.toList == name.toList)=false
  | [],_ => .inl ⟨rfl,fun i hi=>by simp at hi⟩
  | f::r,k=>by
    by_cases h:(f.name.toList == name.toList)=true
    · exact .inr ⟨0,by simp,by rw [Cd.numL,if_pos h];rfl,h,fun i hi hl=>by omega⟩
    · have hf:(f.name.toList == name.toList)=false:=by simpa using h
      rcases Cd.numL_cases name r (k+1) with ⟨h1,h2⟩ | ⟨j,hj,h1,h2,h3⟩
      · refine .inl ⟨by rw [Cd.numL,if_neg h];exact h1,fun i hi => ?_⟩
        cases i with
        | zero=>exact hf
        | succ i=>exact h2 i (by simpa using hi)
      · refine .inr ⟨j+1,by simpa using hj,by rw [Cd.numL,if_neg h,h1];congr 1;omega,h2,fun i hi hl => ?_⟩
        cases i with
        | zero=>exact hf
        | succ i=>exact h3 i (by simpa using hi) (by omega)
def Cd.mainB : ByteArray:=⟨#[109,97,105,110]⟩
theorem Cd.mainB_eq : Cd.mainB.toList=[109,97,105,110]:=by rw [ByteArray.toList_eq];rfl
def Cd.hasMain (c:List Cd.Fn):Bool :=
  decide (0≤Cd.num c Cd.mainB) && decide ((c.getD (Cd.num c Cd.mainB).toNat Cd.noFn).params.length=0) && decide ((c.getD (Cd.num c Cd.mainB).toNat Cd.noFn).result=2)
def Cd.apart (c:List Cd.Fn):Prop := ∀ i j (hi:i < c.length) (hj:j < c.length),i < j→(c[i].name.toList == c[j].name.toList)=false
theorem Cd.hasMain_eq (c:List Cd.Fn) (h:Cd.apart c):Cd.hasMain c=c.any Cd.isMain:=by
  unfold Cd.hasMain Cd.num
  rcases Cd.numL_cases Cd.mainB c 0 with ⟨h1,h2⟩ | ⟨j,hj,h1,h2,h3⟩
  · rw [h1]
    have:c.any Cd.isMain=false:=by
      rw [List.any_eq_false]
      intro f hf hm
      obtain ⟨i,hi,rfl⟩:=List.getElem_of_mem hf
      have h4:=h2 i hi
      unfold Cd.isMain at hm
      rw [Cd.mainB_eq] at h4
      rw [h4] at hm
      simp at hm
    rw [this];rfl
  · rw [Nat.zero_add] at h1
    rw [h1]
    have e:c.getD ((j:Nat):Int).toNat Cd.noFn=c[j]:=by
      rw [Int.toNat_natCast,List.getD_eq_getElem?_getD,List.getElem?_eq_getElem hj];rfl
    rw [e]
    have h4:(c[j].name.toList == [109,97,105,110])=true:=by rw [← Cd.mainB_eq];exact h2
    by_cases hm:Cd.isMain c[j]=true
    · have:c.any Cd.isMain=true:=by rw [List.any_eq_true];exact ⟨_,List.getElem_mem hj,hm⟩
      rw [this]
      unfold Cd.isMain at hm
      rw [h4] at hm
      simp at hm
      simp [hm]
    · have:c.any Cd.isMain=false:=by
        rw [List.any_eq_false]
        intro f hf hm2
        obtain ⟨i,hi,rfl⟩:=List.getElem_of_mem hf
        by_cases e2:i=j
        · subst e2;exact hm hm2
        · have h5:(c[i].name.toList == [109,97,105,110])=true:=by unfold Cd.isMain at hm2;simp at hm2;simpa using hm2.1.1
          have e5:c[i].name.toList=[109,97,105,110]:=by simpa using h5
          have e6:c[j].name.toList=[109,97,105,110]:=by simpa using h4
          rcases Nat.lt_or_gt_of_ne e2 with hl | hl
          · have:=h i j hi hj hl
            rw [e5,e6] at this
            simp at this
          · have:=h j i hj hi hl
            rw [e5,e6] at this
            simp at this
      rw [this]
      unfold Cd.isMain at hm
      rw [h4] at hm
      simp at hm
      by_cases hq:c[j].params.length=0
      · first | (simp [hq];done) | (simp [hq];exact hm (by simpa using hq))
      · first | (simp [hq];done) | (simp [hq];intro h7;exact (hq (by simpa using h7)).elim)
end Go.Proofs.YtbkhedpabfanoaaGreatDoor
namespace Go.Proofs.YtbkhedpabfanoaaGreatDoor
open Go.RowKit

set_option maxRecDepth 100000 in
set_option maxHeartbeats 1000000 in
theorem Cd.hasMain_any (c:List Cd.Fn) (a:Option Addr) (cap:Nat) (hcl:c.length≤1048576) (B:Nat) (w:World) (hB:B≤w.heap.size) (hC:Cd.CodeAt B w (.slice a c.length cap) c) :
    Calls Tryz.prog 72 #[.agg #[.slice a c.length cap]] w fun e w'=>e = .returned (.bool (Cd.hasMain c))∧Below w.heap.size w w':=by
  have HC:Hid (Cd.CodeAt B w (.slice a c.length cap) c):=hC
  clear hC
  obtain ⟨Y1,hY1⟩:∃ Y,w.alloc (.cells #[.slice a c.length cap] 24)=Y:=⟨_,rfl⟩
  have hb1:Below w.heap.size w Y1:=by rw [← hY1];exact Cd.b1 w _
  have hs1:Y1.heap.size=w.heap.size+1:=by rw [← hY1];exact World.size_alloc _ _
  have p1_0:Y1.heap[w.heap.size]? = some (.cells #[.slice a c.length cap] 24):=by rw [← hY1];exact Cd.new_at w _
  have c0_0:Y1.cell? ⟨w.heap.size,0,none⟩=some (.slice a c.length cap):=by rw [Lib.cell_of_heap p1_0];rfl
  have HP:Hid (Y1.heap[w.heap.size]? = some (.cells #[.slice a c.length cap] 24)):=p1_0
  clear p1_0
  have HN0:Hid (Calls Tryz.prog 85 #[.slice a c.length cap,.string Cd.mainB] Y1 fun e w'=>e = .returned (.int .i64 (Cd.num c Cd.mainB))∧Below Y1.heap.size Y1 w'):=Cd.number_any c a cap Cd.mainB hcl B Y1 (by omega) (HC.out.below (hb1.mono hB))
  obtain ⟨r,HR⟩:∃ r,Hid (Cd.hasMain c=r):=⟨_,(rfl:Cd.hasMain c=_)⟩
  rw [HR.out]
  rcases Cd.numL_cases Cd.mainB c 0 with ⟨h1,h2⟩ | ⟨j,hj,h1,h2,h3⟩
  · have HN:Hid (Calls Tryz.prog 85 #[.slice a c.length cap,.string ⟨#[109,97,105,110]⟩] Y1 fun e w'=>e = .returned (.int .i64 (-1))∧Below Y1.heap.size Y1 w'):=by
      have h:=HN0.out
      unfold Cd.num at h
      rw [h1] at h
      exact h
    have HF:Hid (false=r):=by
      rw [Hid,← HR.out];unfold Cd.hasMain Cd.num;rw [h1];rfl
    clear h1 h2 HN0
    go_enter Tryz.func72,Tryz.ntmps72
    go_wp2_with (first | (go_at_call 85;refine HN.out.mono ?_;rintro e w7 ⟨rfl,hb7⟩;have hc7:=(show w7.cell? ⟨w.heap.size,0,none⟩=some (.slice a c.length cap) from (by rw [Lib.cell_of_heap ((hb7.block _ (by omega)).trans HP.out)];rfl))))
    go_ret
    exact ⟨Cd.ret_bool HF.out,hb1.trans (hb7.mono hb1.size)⟩
  · have HN:Hid (Calls Tryz.prog 85 #[.slice a c.length cap,.string ⟨#[109,97,105,110]⟩] Y1 fun e w'=>e = .returned (.int .i64 (j:Int))∧Below Y1.heap.size Y1 w'):=by
      have h:=HN0.out
      unfold Cd.num at h
      rw [h1,Nat.zero_add] at h
      exact h
    have HF:Hid ((decide (c[j].params.length=0) && decide (c[j].result=2))=r):=by
      rw [Hid,← HR.out];unfold Cd.hasMain Cd.num;rw [h1,Nat.zero_add]
      have e:c.getD ((j:Nat):Int).toNat Cd.noFn=c[j]:=by
        rw [Int.toNat_natCast,List.getD_eq_getElem?_getD,List.getElem?_eq_getElem hj];rfl
      rw [e];simp
    clear h1 h2 h3 HN0
    have hjI:(j:Int) < (c.length:Int):=by omega
    go_enter Tryz.func72,Tryz.ntmps72
    by_cases q1:c[j].params.length=0
    · have q1b:((c[j].params.length:Int) == 0)=true:=by simp [q1]
      by_cases q2:c[j].result=2
      · have q2b:(c[j].result == 2)=true:=by simp [q2]
        have HT:Hid (true=r):=by rw [Hid,← HF.out];simp [q1,q2]
        clear q1 q2
        go_wp2_with (first | (go_at_call 85;refine HN.out.mono ?_;rintro e w7 ⟨rfl,hb7⟩;have hc7:=(show w7.cell? ⟨w.heap.size,0,none⟩=some (.slice a c.length cap) from (by rw [Lib.cell_of_heap ((hb7.block _ (by omega)).trans HP.out)];rfl));have hbw7:=hb1.trans (hb7.mono hb1.size);obtain ⟨g,cap',pa,pc,ia,ic,ev,hg,d0,d1,d2,d3,d4,-,-⟩:=(HC.out.below (hbw7.mono hB)).fn j hj;injection ev with ev1 ev2 ev3;subst ev1;clear ev2 ev3))
        all_goals go_ret
        all_goals exact ⟨Cd.ret_bool HT.out,hb1.trans (hb7.mono hb1.size)⟩
      · have q2b:(c[j].result == 2)=false:=by simp [q2]
        have HT:Hid (false=r):=by rw [Hid,← HF.out];simp [q1,q2]
        clear q1 q2
        go_wp2_with (first | (go_at_call 85;refine HN.out.mono ?_;rintro e w7 ⟨rfl,hb7⟩;have hc7:=(show w7.cell? ⟨w.heap.size,0,none⟩=some (.slice a c.length cap) from (by rw [Lib.cell_of_heap ((hb7.block _ (by omega)).trans HP.out)];rfl));have hbw7:=hb1.trans (hb7.mono hb1.size);obtain ⟨g,cap',pa,pc,ia,ic,ev,hg,d0,d1,d2,d3,d4,-,-⟩:=(HC.out.below (hbw7.mono hB)).fn j hj;injection ev with ev1 ev2 ev3;subst ev1;clear ev2 ev3))
        all_goals go_ret
        all_goals exact ⟨Cd.ret_bool HT.out,hb1.trans (hb7.mono hb1.size)⟩
    · have q1b:((c[j].params.length:Int) == 0)=false:=beq_eq_false_iff_ne.2 (by omega)
      have HT:Hid (false=r):=by rw [Hid,← HF.out];simp [q1]
      clear q1
      go_wp2_with (first | (go_at_call 85;refine HN.out.mono ?_;rintro e w7 ⟨rfl,hb7⟩;have hc7:=(show w7.cell? ⟨w.heap.size,0,none⟩=some (.slice a c.length cap) from (by rw [Lib.cell_of_heap ((hb7.block _ (by omega)).trans HP.out)];rfl));have hbw7:=hb1.trans (hb7.mono hb1.size);obtain ⟨g,cap',pa,pc,ia,ic,ev,hg,d0,d1,d2,d3,d4,-,-⟩:=(HC.out.below (hbw7.mono hB)).fn j hj;injection ev with ev1 ev2 ev3;subst ev1;clear ev2 ev3))
      all_goals go_ret
      all_goals exact ⟨Cd.ret_bool HT.out,hb1.trans (hb7.mono hb1.size)⟩
end Go.Proofs.YtbkhedpabfanoaaGreatDoor
namespace Go.Proofs.YtbkhedpabfanoaaGreatDoor
open Go.RowKit

def Cd.isT (t:Int):Bool:=Cd.inR t 1 10
theorem Cd.isType_any (t:Int) (w:World) :
    Calls Tryz.prog 88 #[.int .i64 t] w fun e w'=>e = .returned (.bool (Cd.isT t))∧w=w':=by
  by_cases h1:1≤t
  all_goals
    go_enter Tryz.func88,Tryz.ntmps88
    go_wp2
    all_goals go_ret
    all_goals exact ⟨Cd.ret_bool (by first | (simp [Cd.isT,Cd.inR,h1];done) | (simp [Cd.isT,Cd.inR];omega)),rfl⟩
theorem Cd.isNoType_any (t:Int) (w:World) :
    Calls Tryz.prog 87 #[.int .i64 t] w fun e w'=>e = .returned (.bool (!Cd.isT t))∧w=w':=by
  cases hb:Cd.isT t
  all_goals
    go_enter Tryz.func87,Tryz.ntmps87
    go_wp2_with (go_at_call 88;refine (Cd.isType_any _ _).mono ?_;rintro e w' ⟨rfl,rfl⟩;rw [hb])
    go_ret
    exact ⟨rfl,rfl⟩
set_option maxRecDepth 100000 in
set_option maxHeartbeats 1000000 in
theorem Cd.noIdx_any (l:List Int) (a:Option Addr) (cap:Nat) (hl:l.length≤1048576) (B:Nat) (w:World) (hL:Cd.IntsAt B w (.slice a l.length cap) l) :
    Calls Tryz.prog 103 #[.slice a l.length cap,.func (Fn.func 87) #[] #[]] w fun e w'=>(∃ k:Int,e = .returned (.int .i64 k)∧(decide (0≤k)) = !(l.all Cd.isT))∧w=w':=by
  have HL:Hid (Cd.IntsAt B w (.slice a l.length cap) l):=hL
  clear hL
  go_enter Tryz.func103,Tryz.ntmps103
  go_wp2_with fail
  go_loopw [8] (fun t wr => ∃ i:Nat,i≤l.length∧t = .int .i64 (i:Int)∧w=wr∧∀ j (hj:j < l.length),j < i→Cd.isT l[j]=true) (fun t _=>l.length - (intOf t).toNat)
  case atStart=>exact ⟨0,by omega,rfl,rfl,fun j hj h=>by omega⟩
  case round =>
    obtain ⟨i,hi,rfl,rfl,hno⟩:=hrel
    have HNO:Hid (∀ j (hj:j < l.length),j < i→Cd.isT l[j]=true):=hno
    clear hno
    by_cases hlt:i < l.length
    · have hltI:(i:Int) < (l.length:Int):=by omega
      obtain ⟨g,o,rfl,d0⟩:∃ g o,a=some ⟨g,o,none⟩∧w.cell? ⟨g,o+i,none⟩=some (.int .i64 l[i]):=by
        obtain ⟨a',cp,e,hc⟩:=HL.out
        injection e with e1
        subst e1
        obtain ⟨g,o,h1,_,h2⟩:=hc i hlt
        exact ⟨g,o,h1,h2⟩
      obtain ⟨b,HB⟩:∃ b,Hid (Cd.isT l[i]=b):=⟨_,(rfl:Cd.isT l[i]=_)⟩
      obtain ⟨x,HX⟩:∃ x,Hid (l[i]=x):=⟨_,(rfl:l[i]=_)⟩
      have HB2:Hid (Cd.isT x=b):=by rw [Hid,← HX.out];exact HB.out
      rw [HX.out] at d0
      cases b with
      | false =>
        have HR:Hid ((decide ((0:Int)≤(i:Int))) = !(l.all Cd.isT)):=by
          have h2:l.all Cd.isT=false:=by
            rw [List.all_eq_false]
            exact ⟨l[i],List.getElem_mem hlt,by rw [HB.out];simp⟩
          rw [Hid,h2];simp
        go_wp2_with (go_at_call 87;refine (Cd.isNoType_any _ _).mono ?_;rintro e w' ⟨rfl,rfl⟩;rw [HB2.out])
        go_ret
        exact ⟨⟨_,rfl,HR.out⟩,rfl⟩
      | true =>
        have HNX:Hid (∀ j (hj:j < l.length),j < i+1→Cd.isT l[j]=true):=fun j hj h=>by
          by_cases e:j=i
          · subst e;exact HB.out
          · exact HNO.out j hj (by omega)
        go_wp2_with (go_at_call 87;refine (Cd.isNoType_any _ _).mono ?_;rintro e w' ⟨rfl,rfl⟩;rw [HB2.out])
        go_roundw
        case rel=>exact ⟨i+1,by omega,by go_num,by first | rfl | trivial,HNX.out⟩
        case measure=>simp [intOf];omega
    · have hltI:¬ (i:Int) < (l.length:Int):=by omega
      have HR:Hid ((decide ((0:Int) ≤ -1)) = !(l.all Cd.isT)):=by
        have h2:l.all Cd.isT=true:=by
          rw [List.all_eq_true]
          intro t ht
          obtain ⟨j,hj,rfl⟩:=List.getElem_of_mem ht
          exact HNO.out j hj (by omega)
        rw [Hid,h2];rfl
      go_wp2_with fail
      go_ret
      exact ⟨⟨_,rfl,HR.out⟩,rfl⟩
set_option maxHeartbeats 1000000 in
theorem Cd.noType_any (l:List Int) (a:Option Addr) (cap:Nat) (hl:l.length≤1048576) (B:Nat) (w:World) (hL:Cd.IntsAt B w (.slice a l.length cap) l) :
    Calls Tryz.prog 86 #[.slice a l.length cap,.func (Fn.func 87) #[] #[]] w fun e w'=>e = .returned (.bool (!(l.all Cd.isT)))∧w=w':=by
  have HI:Hid (Calls Tryz.prog 103 #[.slice a l.length cap,.func (Fn.func 87) #[] #[]] w fun e w'=>(∃ k:Int,e = .returned (.int .i64 k)∧(decide (0≤k)) = !(l.all Cd.isT))∧w=w'):=Cd.noIdx_any l a cap hl B w hL
  clear hL
  obtain ⟨r,HR⟩:∃ r,Hid ((!(l.all Cd.isT))=r):=⟨_,(rfl:(!(l.all Cd.isT))=_)⟩
  rw [HR.out] at HI ⊢
  go_enter Tryz.func86,Tryz.ntmps86
  go_wp2_with (go_at_call 103;refine HI.out.mono ?_;rintro e w' ⟨⟨k,rfl,hk⟩,rfl⟩)
  all_goals go_ret
  all_goals exact ⟨Cd.ret_bool (by first | exact hk | (simp_all;done) | (rw [← hk];simp;omega)),rfl⟩
end Go.Proofs.YtbkhedpabfanoaaGreatDoor
