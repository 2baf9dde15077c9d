import Derived.Test.YtfoimmnlojjfbaaGreatDoorKScanW
import Derived.RangeFuncNested
import Derived.RangeFuncBound
import Derived.RangeFuncCalls
import Derived.RangeFuncLeaves
import Derived.RangeFuncBox
import Derived.Shelf.Abstract
import Derived.Shelf.RegionOpen
import Derived.WalkKit
import Derived.OwnWalkIn
import Derived.TacticsInMore
import Derived.LoopNIn
import Derived.LoopIn
set_option maxRecDepth 100000
set_option maxHeartbeats 2000000
namespace Go.Proofs.YtfoimmnlojjfbaaGreatDoor
open Go.RowKit
theorem Mill.seven_cells {w wr:World} (hb:Below (w.heap.size+1) (w.alloc (.cells #[.int .i64 0,.string ByteArray.empty,.int .i64 0,.int .i64 0,.int .i64 0,.int .i64 0,.int .i64 0] 60)) wr) :
  wr.cell? ⟨w.heap.size,0,none⟩=some (.int .i64 0)∧wr.cell? ⟨w.heap.size,1,none⟩=some (.string ByteArray.empty)∧wr.cell? ⟨w.heap.size,2,none⟩=some (.int .i64 0)∧wr.cell? ⟨w.heap.size,3,none⟩=some (.int .i64 0)∧wr.cell? ⟨w.heap.size,4,none⟩=some (.int .i64 0)∧wr.cell? ⟨w.heap.size,5,none⟩=some (.int .i64 0)∧wr.cell? ⟨w.heap.size,6,none⟩=some (.int .i64 0):=by
 refine ⟨?_, ?_, ?_, ?_, ?_, ?_, ?_⟩
 ·rw [hb.cell (p:=⟨w.heap.size,0,none⟩) (by simp)];simp [go_sem]
 ·rw [hb.cell (p:=⟨w.heap.size,1,none⟩) (by simp)];simp [go_sem]
 ·rw [hb.cell (p:=⟨w.heap.size,2,none⟩) (by simp)];simp [go_sem]
 ·rw [hb.cell (p:=⟨w.heap.size,3,none⟩) (by simp)];simp [go_sem]
 ·rw [hb.cell (p:=⟨w.heap.size,4,none⟩) (by simp)];simp [go_sem]
 ·rw [hb.cell (p:=⟨w.heap.size,5,none⟩) (by simp)];simp [go_sem]
 ·rw [hb.cell (p:=⟨w.heap.size,6,none⟩) (by simp)];simp [go_sem]
theorem Mill.seven_frozen {w wr:World} (hb:Below (w.heap.size+1) (w.alloc (.cells #[.int .i64 0,.string ByteArray.empty,.int .i64 0,.int .i64 0,.int .i64 0,.int .i64 0,.int .i64 0] 60)) wr) :
  wr.frozen? ⟨w.heap.size,0,none⟩=false∧wr.frozen? ⟨w.heap.size,1,none⟩=false∧wr.frozen? ⟨w.heap.size,2,none⟩=false∧wr.frozen? ⟨w.heap.size,3,none⟩=false∧wr.frozen? ⟨w.heap.size,4,none⟩=false∧wr.frozen? ⟨w.heap.size,5,none⟩=false∧wr.frozen? ⟨w.heap.size,6,none⟩=false∧w.heap.size < wr.heap.size:=by
 refine ⟨?_, ?_, ?_, ?_, ?_, ?_, ?_, ?_⟩
 ·rw [hb.frozen (p:=⟨w.heap.size,0,none⟩) (by simp)];simp [go_sem]
 ·rw [hb.frozen (p:=⟨w.heap.size,1,none⟩) (by simp)];simp [go_sem]
 ·rw [hb.frozen (p:=⟨w.heap.size,2,none⟩) (by simp)];simp [go_sem]
 ·rw [hb.frozen (p:=⟨w.heap.size,3,none⟩) (by simp)];simp [go_sem]
 ·rw [hb.frozen (p:=⟨w.heap.size,4,none⟩) (by simp)];simp [go_sem]
 ·rw [hb.frozen (p:=⟨w.heap.size,5,none⟩) (by simp)];simp [go_sem]
 ·rw [hb.frozen (p:=⟨w.heap.size,6,none⟩) (by simp)];simp [go_sem]
 ·have:=hb.size;simp at this;omega
theorem Mill.below7b {w wr:World} {o:Obj} (hb:Below (w.heap.size+1) (w.alloc o) wr) (c0 c1 c2 c3 c4 c5 c6:Value) :
  Below w.heap.size w (((((((wr.setCell ⟨w.heap.size,0,none⟩ c0).setCell ⟨w.heap.size,1,none⟩ c1).setCell ⟨w.heap.size,2,none⟩ c2).setCell ⟨w.heap.size,3,none⟩ c3).setCell ⟨w.heap.size,4,none⟩ c4).setCell ⟨w.heap.size,5,none⟩ c5).setCell ⟨w.heap.size,6,none⟩ c6) :=
 Mill.below7 _ (Nat.le_refl _) o (by simpa using hb) _ _ _ _ _ _ _
theorem Mill.isBuilder_new (T e:TypeId) (w:World):Lib.IsBuilderF T e w.heap.size w.heap.size (Lib.byteCells []) (w.alloc (.cells #[.pointer none,.slice none 0 0] T)):=Lib.IsBuilderF.of (Lib.fresh_isBuilder T e w)
theorem Mill.rb_drop (s:ByteArray) (i:Nat):(s.extract i s.size).data.toList=s.data.toList.drop i:=by
 rw [Lib.extract_data,List.take_of_length_le (by simp)]
theorem Mill.rbOk_eq (s:ByteArray) (i:Nat) (h:i+1 < s.size):Mill.rbOk (s.extract i s.size)=(decide (0≤Mill.hexOf s[i]) && decide (0≤Mill.hexOf s[i+1])):=by
 rw [Mill.rbOk,Mill.rb_drop,Mill.drop_cons s i (by omega),Mill.drop_cons s (i+1) (by omega)]
theorem Mill.rbOk_short (s:ByteArray) (i:Nat) (h:¬ i+1 < s.size):Mill.rbOk (s.extract i s.size)=false:=by
 rw [Mill.rbOk,Mill.rb_drop]
 have hl:(s.data.toList.drop i).length≤1:=by simp;omega
 match s.data.toList.drop i,hl with
 | [],_=>rfl
 | [a],_=>rfl
theorem Mill.rbVal_eq (s:ByteArray) (i:Nat) (h:i+1 < s.size):Mill.rbVal (s.extract i s.size)=16 * Mill.hexOf s[i]+Mill.hexOf s[i+1]:=by
 rw [Mill.rbVal,Mill.rb_drop,Mill.drop_cons s i (by omega),Mill.drop_cons s (i+1) (by omega)]
theorem Mill.textP_none (l:List UInt8) (h:Mill.unq l.tail []=none):Mill.textP l=Mill.bad 4:=by rw [Mill.textP,h]
theorem Mill.textP_some (l t r:List UInt8) (h:Mill.unq l.tail []=some (t,r)):Mill.textP l=if 3000 < t.length then Mill.bad 5 else ⟨4,t,0,0,l.length - r.length,0⟩:=by rw [Mill.textP,h]
def Mill.UnqPost (s:ByteArray) (w:World) (e:Ending) (w':World):Prop :=
 ((e = .returned (.tuple #[.string ⟨#[]⟩,.int .i64 0])∧Mill.textP s.data.toList=Mill.bad 4) ∨
  ∃ (t:ByteArray) (n:Nat),1≤n∧n≤1048576∧t.size≤1048576∧e = .returned (.tuple #[.string t,.int .i64 (n:Int)])∧Mill.textP s.data.toList=if 3000 < t.size then Mill.bad 5 else ⟨4,t.data.toList,0,0,n,0⟩)∧Below w.heap.size w w'
theorem unquoted_any (s:ByteArray) (w:World) (h1:1≤s.size) (hs:s.size≤1048576) :
  Calls Tryz.prog 54 #[.string s] w (Mill.UnqPost s w):=by
 have htl:s.data.toList.tail=s.data.toList.drop 1:=by simp
 go_enter Tryz.func54,Tryz.ntmps54
 go_wp2
 go_loopw [5,6,7,8] (fun t _ _ _ wr => ∃ (i:Nat) (acc:List UInt8),1≤i∧i≤s.size∧acc.length≤i∧t = .int .i64 (i:Int)∧Lib.IsBuilderF 100 5 w.heap.size w.heap.size (Lib.byteCells acc) wr∧Below w.heap.size w wr∧Mill.unq (s.data.toList.drop i) acc=Mill.unq s.data.toList.tail []) (fun t _ _ _ _=>s.size - (intOf t).toNat)
 case atStart =>
  exact ⟨1,[],by omega,by omega,by simp,rfl,Mill.isBuilder_new 100 5 w,(Below.refl _ _).alloc (Nat.le_refl _) _,by rw [htl]⟩
 case round =>
  obtain ⟨i,acc,hi1,hi2,hacc,rfl,hI,hbw,hu⟩:=hrel
  clear htl
  by_cases hlt:i < s.size
  ·rw [Mill.drop_cons s i hlt] at hu
   cases h34:((s[i].toNat:Int) == 34) with
   | true =>
    have HP:Hid (Mill.textP s.data.toList=if 3000 < (⟨acc.toArray⟩:ByteArray).size then Mill.bad 5 else ⟨4,(⟨acc.toArray⟩:ByteArray).data.toList,0,0,i+1,0⟩):=by
     rw [Mill.byte_eq _ 34 h34,Mill.unq_quote] at hu
     rw [Hid,Mill.textP_some _ _ _ hu.symm]
     have e1:s.data.toList.length - (s.data.toList.drop (i+1)).length=i+1:=by simp;omega
     have e2:(⟨acc.toArray⟩:ByteArray).size=acc.length:=rfl
     have e3:(⟨acc.toArray⟩:ByteArray).data.toList=acc:=rfl
     rw [e1,e2,e3]
    clear hu
    have hz:=hbw.size
    go_wp2_with (go_at_call 69;refine (Tryz.Builder_String_any_k w.heap.size w.heap.size acc _ hI hz).mono ?_;rintro e W1 ⟨rfl,k1,k2,k3⟩;have hbw1:=hbw.trans k2)
    exact bodyPost_ret (v:=.tuple #[.string ⟨acc.toArray⟩,.int .i64 ((i:Int)+1)]) (by simp [results,Tryz.results54,go_sem]) rfl ⟨.inr ⟨⟨acc.toArray⟩,i+1,by omega,by omega,by have e2:(⟨acc.toArray⟩:ByteArray).size=acc.length:=rfl;omega,by rw [show ((i+1:Nat):Int)=(i:Int)+1 by omega],HP.out⟩,hbw1⟩
   | false =>
    have n34:s[i]≠34:=Mill.byte_ne _ 34 h34
    cases h92:((s[i].toNat:Int) == 92) with
    | true =>
     have e92:s[i]=92:=Mill.byte_eq _ 92 h92
     rw [e92] at hu
     have hb1:32≤(s[i].toNat:Int):=by simp at h92;omega
     have hb2:(s[i].toNat:Int)≤126:=by simp at h92;omega
     have hz:=hbw.size
     cases hrb:Mill.rbOk (s.extract (i+1) s.size) with
     | true =>
      have h2:i+1+1 < s.size:=by
       by_cases h:i+1+1 < s.size
       ·exact h
       ·rw [Mill.rbOk_short s (i+1) h] at hrb;simp at hrb
      have hok:=hrb
      rw [Mill.rbOk_eq s (i+1) h2,Bool.and_eq_true,decide_eq_true_eq,decide_eq_true_eq] at hok
      have hv:=Mill.rbVal_eq s (i+1) h2
      rw [Mill.drop_cons s (i+1) (by omega),Mill.drop_cons s (i+1+1) (by omega),Mill.unq_hex,if_pos hok,← hv] at hu
      have ha:=Mill.hex_bd (s[i+1].toNat:Int)
      have hbd:=Mill.hex_bd (s[i+1+1].toNat:Int)
      have hv0:0≤Mill.rbVal (s.extract (i+1) s.size)∧Mill.rbVal (s.extract (i+1) s.size)≤255:=by
       rw [hv];unfold Mill.hexOf at *;omega
      obtain ⟨v,HV⟩:∃ v,Hid (Mill.rbVal (s.extract (i+1) s.size)=v):=⟨_,(rfl:Mill.rbVal (s.extract (i+1) s.size)=_)⟩
      rw [HV.out] at hu hv0
      obtain ⟨hv1,hv2⟩:=hv0
      have HU:Hid (Mill.unq (s.data.toList.drop (i+3)) (acc++[UInt8.ofNat v.toNat])=Mill.unq s.data.toList.tail []):=hu
      have HE:Hid (((UInt8.ofNat v.toNat).toNat:Int)=v):=Mill.ofNat_toNat v hv1 hv2
      clear hu n34 e92 hok hv ha hbd
      go_wp2_with (first
       | (go_at_call 70;refine (readByte_yes _ _ hrb).mono ?_;rintro e w' ⟨rfl,rfl⟩;rw [HV.out])
       | (go_at_call 71;refine (Tryz.Builder_WriteByte_k w.heap.size w.heap.size _ _ _ hI (by rw [Lib.byteCells_length];omega) hz).mono ?_;rintro e W1 ⟨rfl,k1,k2,k3⟩))
      go_roundw
      case rel=>exact ⟨i+3,acc++[UInt8.ofNat v.toNat],by omega,by omega,by simp;omega,by go_num,by rw [Mill.byteCells_snoc,HE.out];exact Or.inr k1,hbw.trans k2,HU.out⟩
      case measure=>simp [intOf];omega
     | false =>
      have HP:Hid (Mill.textP s.data.toList=Mill.bad 4):=by
       have hnone:Mill.unq (92::s.data.toList.drop (i+1)) acc=none:=by
        by_cases h2:i+1+1 < s.size
        ·rw [Mill.rbOk_eq s (i+1) h2] at hrb
         rw [Mill.drop_cons s (i+1) (by omega),Mill.drop_cons s (i+1+1) (by omega),Mill.unq_hex,if_neg (by
          rintro ⟨a,b⟩
          rw [decide_eq_true a,decide_eq_true b] at hrb;simp at hrb)]
        ·exact Mill.unq_short _ _ (by simp;omega)
       rw [hnone] at hu
       rw [Hid,Mill.textP_none _ hu.symm]
      clear hu n34 e92
      go_wp2_with (go_at_call 70;refine (readByte_no _ _ hrb).mono ?_;rintro e w' ⟨rfl,rfl⟩)
      exact bodyPost_ret (v:=.tuple #[.string ⟨#[]⟩,.int .i64 0]) (by simp [results,Tryz.results54,go_sem]) rfl ⟨.inl ⟨rfl,HP.out⟩,hbw⟩
    | false =>
     have n92:s[i]≠92:=Mill.byte_ne _ 92 h92
     by_cases hbr:32≤(s[i].toNat:Int)∧(s[i].toNat:Int)≤126
     ·obtain ⟨hb1,hb2⟩:=hbr
      have hba:Mill.isBare s[i]=true:=by
       have a1:(s[i].toNat:Int)≠34:=by simpa using h34
       have a2:(s[i].toNat:Int)≠92:=by simpa using h92
       simp [Mill.isBare,Mill.bare,hb1,hb2,a1,a2]
      have HU:Hid (Mill.unq (s.data.toList.drop (i+1)) (acc++[s[i]])=Mill.unq s.data.toList.tail []):=by
       rw [Mill.unq_bare _ _ _ n34 hba] at hu;exact hu
      clear hu n34 n92 hba
      have hz:=hbw.size
      go_wp2_with (go_at_call 71;refine (Tryz.Builder_WriteByte_k w.heap.size w.heap.size _ _ _ hI (by rw [Lib.byteCells_length];omega) hz).mono ?_;rintro e W1 ⟨rfl,k1,k2,k3⟩)
      go_roundw
      case rel=>exact ⟨i+1,acc++[s[i]],by omega,by omega,by simp;omega,by go_num,by rw [Mill.byteCells_snoc];exact Or.inr k1,hbw.trans k2,HU.out⟩
      case measure=>simp [intOf];omega
     ·have hnb:Mill.isBare s[i]=false:=by
       simp [Mill.isBare,Mill.bare];intro a b;exact absurd ⟨a,b⟩ hbr
      have HP:Hid (Mill.textP s.data.toList=Mill.bad 4):=by
       rw [Mill.unq_bad _ _ _ n34 hnb n92] at hu
       rw [Hid,Mill.textP_none _ hu.symm]
      clear hu n34 n92 hnb
      by_cases h32:(s[i].toNat:Int) < 32
      ·go_wp2
       exact bodyPost_ret (v:=.tuple #[.string ⟨#[]⟩,.int .i64 0]) (by simp [results,Tryz.results54,go_sem]) rfl ⟨.inl ⟨rfl,HP.out⟩,hbw⟩
      ·have h126:126 < (s[i].toNat:Int):=by omega
       go_wp2
       exact bodyPost_ret (v:=.tuple #[.string ⟨#[]⟩,.int .i64 0]) (by simp [results,Tryz.results54,go_sem]) rfl ⟨.inl ⟨rfl,HP.out⟩,hbw⟩
  ·have HP:Hid (Mill.textP s.data.toList=Mill.bad 4):=by
    rw [List.drop_of_length_le (by simp;omega)] at hu
    rw [Hid,Mill.textP_none _ (by rw [← hu];rfl)]
   clear hu
   go_wp2
   exact bodyPost_ret (v:=.tuple #[.string ⟨#[]⟩,.int .i64 0]) (by simp [results,Tryz.results54,go_sem]) rfl ⟨.inl ⟨rfl,HP.out⟩,hbw⟩
theorem readText_any (s:ByteArray) (w:World) (h1:1≤s.size) (hs:s.size≤1048576) :
  Calls Tryz.prog 34 #[.string s] w fun e w'=>e = .returned (Mill.pieceV (Mill.textP s.data.toList))∧Below w.heap.size w w':=by
 have HQ:Hid (∀ w,Calls Tryz.prog 54 #[.string s] w (Mill.UnqPost s w)):=fun w=>unquoted_any s w h1 hs
 go_enter Tryz.func34,Tryz.ntmps34
 go_wp2_with fail
 go_at_call 54
 refine (HQ.out _).mono ?_
 rintro e w1 ⟨hd,hb⟩
 have hbw:Below (w.heap.size+1) (w.alloc (.cells #[.int .i64 0,.string ByteArray.empty,.int .i64 0,.int .i64 0,.int .i64 0,.int .i64 0,.int .i64 0] 60)) w1:=by simp only [World.size_alloc] at hb;exact hb
 obtain ⟨d0,d1,d2,d3,d4,d5,d6⟩:=Mill.seven_cells hbw
 obtain ⟨g0,g1,g2,g3,g4,g5,g6,hz⟩:=Mill.seven_frozen hbw
 clear hb HQ
 rcases hd with ⟨rfl,hp⟩ | ⟨t,n,hn1,hn2,ht,rfl,hp⟩
 ·have HP:Hid (Mill.textP s.data.toList=Mill.bad 4):=hp
  clear hp
  go_wp2
  refine bodyPost_ret (v:=Mill.pieceV (Mill.bad 4)) (by simp [results,Tryz.results34,go_sem,d0,d1,d2,d3,d4,d5,d6,Mill.pieceV,Mill.bad,Mill.ba]) rfl ⟨Mill.ret_val (by rw [HP.out]),Mill.below7b hbw _ _ _ _ _ _ _⟩
 ·have hn0:((n:Int) == 0)=false:=by simp;omega
  by_cases h3:3000 < t.size
  ·have HP:Hid (Mill.textP s.data.toList=Mill.bad 5):=by rw [Hid,hp,if_pos h3]
   clear hp
   go_wp2
   refine bodyPost_ret (v:=Mill.pieceV (Mill.bad 5)) (by simp [results,Tryz.results34,go_sem,d0,d1,d2,d3,d4,d5,d6,Mill.pieceV,Mill.bad,Mill.ba]) rfl ⟨Mill.ret_val (by rw [HP.out]),Mill.below7b hbw _ _ _ _ _ _ _⟩
  ·have HP:Hid (Mill.textP s.data.toList=⟨4,t.data.toList,0,0,n,0⟩):=by rw [Hid,hp,if_neg h3]
   clear hp
   go_wp2
   refine bodyPost_ret (v:=Mill.pieceV ⟨4,t.data.toList,0,0,n,0⟩) (by simp [results,Tryz.results34,go_sem,d0,d1,d2,d3,d4,d5,d6,Mill.pieceV,Mill.ba]) rfl ⟨Mill.ret_val (by rw [HP.out]),Mill.below7b hbw _ _ _ _ _ _ _⟩
end Go.Proofs.YtfoimmnlojjfbaaGreatDoor
namespace Go.Proofs.YtfoimmnlojjfbaaGreatDoor
open Go.RowKit Go.Shelf
attribute [local go_sem] Oper.semAt_some
theorem tokens_in (n:Nat) (s:ByteArray) (w:World) :
  CallsIn Fence.wide n Tryz.prog 13 #[.string s] w fun e w'=>e = .returned (.func (.func 27) #[] #[.pointer (some ⟨w.heap.size,0,none⟩)])∧w'=w.alloc (.cells #[.string s] 9):=by
 refine callsIn_of_wp Tryz.func13 rfl trivial ?_ rfl
 simp only [Tryz.ntmps13,List.size_toArray,List.length_cons,List.length_nil,Nat.reduceAdd,Nat.reduceSub,Array.replicate_succ,Array.replicate_zero,List.push_toArray,List.append_toArray,List.nil_append,List.cons_append]
 gi_wp2
 go_ret
 exact ⟨rfl,rfl⟩
structure Mill.Kp (n₀:Nat) (W W':World):Prop where
 below:Below n₀ W W'
 walks:KeepsWalks W W'
 pieces:∀ (k:Nat) (c:Array Value) (fz:Nat × Nat),W.heap[k]? = some (Obj.cells c 60 fz)→W'.heap[k]? = W.heap[k]?
 strs:∀ (k:Nat) (c:Array Value) (fz:Nat × Nat),W.heap[k]? = some (Obj.cells c 9 fz)→W'.heap[k]? = W.heap[k]?
theorem Mill.Kp.trans {n₀:Nat} {A B C:World} (h:Mill.Kp n₀ A B) (k:Mill.Kp n₀ B C):Mill.Kp n₀ A C :=
 ⟨h.below.trans k.below,h.walks.trans k.walks,fun i c fz hi=>by
  have h1:=h.pieces i c fz hi
  rw [k.pieces i c fz (h1.trans hi),h1],fun i c fz hi=>by
  have h1:=h.strs i c fz hi
  rw [k.strs i c fz (h1.trans hi),h1]⟩
theorem Mill.Kp.put {n₀:Nat} {w:World} (hn:n₀≤w.heap.size) (W:World) (l:Nat) (o o':Obj) (hl:w.heap.size≤l) (h:W.heap[l]? = some o) (hc:o.isCells=false) (hw:o.isWalk=false):Mill.Kp n₀ W (W.putObj l o') :=
 ⟨belowK_b hn W l o o' hl h hc hw,walksK_b (w:=w) W l o o' hl h hc hw,fun k c fz hk=>World.putObj_heap_other (fun e=>by subst e;rw [hk] at h;cases h;simp [Obj.isCells] at hc),fun k c fz hk=>World.putObj_heap_other (fun e=>by subst e;rw [hk] at h;cases h;simp [Obj.isCells] at hc)⟩
def Mill.seqL : Nat→List UInt8→Nat→List (Mill.Piece × Nat)
 | 0,_,_=>[]
 | _+1,[],_=>[]
 | f+1,b::r,i=>if b=32∨b=10 then Mill.seqL f r (i+1)
   else if b=35 then Mill.seqL f ((b::r).drop (Mill.rem (b::r))) (i+Mill.rem (b::r))
   else if (Mill.one (b::r)).code≠0 then [(Mill.one (b::r),i)]
   else (Mill.one (b::r),i)::Mill.seqL f ((b::r).drop (Mill.one (b::r)).size) (i+(Mill.one (b::r)).size)
def Mill.fin : List (Mill.Piece × Nat)→List (Mill.Piece × Nat)→List (Mill.Piece × Nat) × Int × Nat
 | acc,[]=>(acc,0,0)
 | acc,x::r=>if x.1.code≠0 then ([],x.1.code,x.2) else Mill.fin (acc++[x]) r
theorem Mill.scan_seq : ∀ (f:Nat) (l:List UInt8) (i:Nat) (acc:List (Mill.Piece × Nat)),Mill.scanL f l i acc=Mill.fin acc (Mill.seqL f l i)
 | 0,_,_,_=>by rw [Mill.scanL,Mill.seqL,Mill.fin]
 | _+1,[],_,_=>by rw [Mill.scanL,Mill.seqL,Mill.fin]
 | f+1,b::r,i,acc=>by
  rw [Mill.scanL,Mill.seqL]
  by_cases h1:b=32∨b=10
  ·rw [if_pos h1,if_pos h1];exact Mill.scan_seq f _ _ _
  ·rw [if_neg h1,if_neg h1]
   by_cases h2:b=35
   ·rw [if_pos h2,if_pos h2];exact Mill.scan_seq f _ _ _
   ·rw [if_neg h2,if_neg h2]
    by_cases h3:(Mill.one (b::r)).code≠0
    ·rw [if_pos h3,if_pos h3,Mill.fin,if_pos h3]
    ·rw [if_neg h3,if_neg h3,Mill.fin,if_neg h3];exact Mill.scan_seq f _ _ _
theorem Mill.seq_gap (f i:Nat) (b:UInt8) (r:List UInt8) (h:b=32∨b=10):Mill.seqL (f+1) (b::r) i=Mill.seqL f r (i+1):=by rw [Mill.seqL,if_pos h]
theorem Mill.seq_rem (f i:Nat) (b:UInt8) (r:List UInt8) (h:¬ (b=32∨b=10)) (h2:b=35):Mill.seqL (f+1) (b::r) i=Mill.seqL f ((b::r).drop (Mill.rem (b::r))) (i+Mill.rem (b::r)):=by rw [Mill.seqL,if_neg h,if_pos h2]
theorem Mill.seq_bad (f i:Nat) (b:UInt8) (r:List UInt8) (h:¬ (b=32∨b=10)) (h2:b≠35) (h3:(Mill.one (b::r)).code≠0):Mill.seqL (f+1) (b::r) i=[(Mill.one (b::r),i)]:=by rw [Mill.seqL,if_neg h,if_neg h2,if_pos h3]
theorem Mill.seq_tok (f i:Nat) (b:UInt8) (r:List UInt8) (h:¬ (b=32∨b=10)) (h2:b≠35) (h3:(Mill.one (b::r)).code=0):Mill.seqL (f+1) (b::r) i=(Mill.one (b::r),i)::Mill.seqL f ((b::r).drop (Mill.one (b::r)).size) (i+(Mill.one (b::r)).size):=by rw [Mill.seqL,if_neg h,if_neg h2,if_neg (by simpa using h3)]
theorem Mill.seq_nil (f i:Nat):Mill.seqL f [] i=[]:=by cases f <;> rfl
def Mill.seq (s:ByteArray):List (Mill.Piece × Nat):=Mill.seqL (s.size+1) s.data.toList 0
theorem Mill.seq_len : ∀ (f:Nat) (l:List UInt8) (i:Nat),(Mill.seqL f l i).length≤f
 | 0,_,_=>by rw [Mill.seqL];simp
 | _+1,[],_=>by rw [Mill.seqL];simp
 | f+1,b::r,i=>by
  rw [Mill.seqL]
  repeat' split
  ·have:=Mill.seq_len f r (i+1);omega
  ·have:=Mill.seq_len f ((b::r).drop (Mill.rem (b::r))) (i+Mill.rem (b::r));omega
  ·simp
  ·have:=Mill.seq_len f ((b::r).drop (Mill.one (b::r)).size) (i+(Mill.one (b::r)).size);simp only [List.length_cons];omega
theorem Mill.ix_rem : ∀ l:List UInt8,Lib.indexByte l 10=if Mill.rem l < l.length then (Mill.rem l:Int) else -1
 | []=>by simp [Lib.indexByte]
 | b::r=>by
  have ih:=Mill.ix_rem r
  by_cases h:b=10
  ·subst h;simp [Lib.indexByte,Mill.rem,Mill.notNl]
  ·have hb:(b == 10)=false:=by simpa using h
   have hn:Mill.notNl b=true:=by simp [Mill.notNl,h]
   have hr:Mill.rem (b::r)=Mill.rem r+1:=by simp [Mill.rem,hn]
   rw [Lib.indexByte,hb,hr]
   simp only [Bool.false_eq_true,if_false,List.length_cons]
   by_cases h2:Mill.rem r < r.length
   ·rw [if_pos h2] at ih
    have hm:((Mill.rem r:Int) == -1)=false:=by simp
    rw [ih,hm,if_pos (show Mill.rem r+1 < r.length+1 by omega)];simp
   ·rw [if_neg h2] at ih
    rw [ih,if_neg (show ¬ Mill.rem r+1 < r.length+1 by omega)];simp
end Go.Proofs.YtfoimmnlojjfbaaGreatDoor
