import Derived.Test.YtlcckaffhnjneaaGreatDoorKScanW
import Derived.RangeFuncNested
import Derived.RangeFuncBound
import Derived.RangeFuncCalls
import Derived.RangeFuncLeaves
import Derived.RangeFuncBox
import Derived.Shelf.Abstract
import Derived.Shelf.RegionOpen
import Derived.WalkKit
import Derived.OwnWalkIn
import Derived.TacticsInMore
import Derived.LoopNIn
import Derived.LoopIn
set_option maxRecDepth 100000
set_option maxHeartbeats 4000000
namespace Go.Proofs.YtlcckaffhnjneaaGreatDoor
open Go.RowKit
theorem Mill.seven_cells {w wr:World} (hb:Below (w.heap.size+1) (w.alloc (.cells #[.int .i64 0,.string ByteArray.empty,.int .i64 0,.int .i64 0,.int .i64 0,.int .i64 0,.int .i64 0] 105)) wr) :
  wr.cell? ⟨w.heap.size,0,none⟩=some (.int .i64 0)∧wr.cell? ⟨w.heap.size,1,none⟩=some (.string ByteArray.empty)∧wr.cell? ⟨w.heap.size,2,none⟩=some (.int .i64 0)∧wr.cell? ⟨w.heap.size,3,none⟩=some (.int .i64 0)∧wr.cell? ⟨w.heap.size,4,none⟩=some (.int .i64 0)∧wr.cell? ⟨w.heap.size,5,none⟩=some (.int .i64 0)∧wr.cell? ⟨w.heap.size,6,none⟩=some (.int .i64 0):=by
 refine ⟨?_, ?_, ?_, ?_, ?_, ?_, ?_⟩
 ·rw [hb.cell (p:=⟨w.heap.size,0,none⟩) (by simp)];simp [go_sem]
 ·rw [hb.cell (p:=⟨w.heap.size,1,none⟩) (by simp)];simp [go_sem]
 ·rw [hb.cell (p:=⟨w.heap.size,2,none⟩) (by simp)];simp [go_sem]
 ·rw [hb.cell (p:=⟨w.heap.size,3,none⟩) (by simp)];simp [go_sem]
 ·rw [hb.cell (p:=⟨w.heap.size,4,none⟩) (by simp)];simp [go_sem]
 ·rw [hb.cell (p:=⟨w.heap.size,5,none⟩) (by simp)];simp [go_sem]
 ·rw [hb.cell (p:=⟨w.heap.size,6,none⟩) (by simp)];simp [go_sem]
theorem Mill.seven_frozen {w wr:World} (hb:Below (w.heap.size+1) (w.alloc (.cells #[.int .i64 0,.string ByteArray.empty,.int .i64 0,.int .i64 0,.int .i64 0,.int .i64 0,.int .i64 0] 105)) wr) :
  wr.frozen? ⟨w.heap.size,0,none⟩=false∧wr.frozen? ⟨w.heap.size,1,none⟩=false∧wr.frozen? ⟨w.heap.size,2,none⟩=false∧wr.frozen? ⟨w.heap.size,3,none⟩=false∧wr.frozen? ⟨w.heap.size,4,none⟩=false∧wr.frozen? ⟨w.heap.size,5,none⟩=false∧wr.frozen? ⟨w.heap.size,6,none⟩=false∧w.heap.size < wr.heap.size:=by
 refine ⟨?_, ?_, ?_, ?_, ?_, ?_, ?_, ?_⟩
 ·rw [hb.frozen (p:=⟨w.heap.size,0,none⟩) (by simp)];simp [go_sem]
 ·rw [hb.frozen (p:=⟨w.heap.size,1,none⟩) (by simp)];simp [go_sem]
 ·rw [hb.frozen (p:=⟨w.heap.size,2,none⟩) (by simp)];simp [go_sem]
 ·rw [hb.frozen (p:=⟨w.heap.size,3,none⟩) (by simp)];simp [go_sem]
 ·rw [hb.frozen (p:=⟨w.heap.size,4,none⟩) (by simp)];simp [go_sem]
 ·rw [hb.frozen (p:=⟨w.heap.size,5,none⟩) (by simp)];simp [go_sem]
 ·rw [hb.frozen (p:=⟨w.heap.size,6,none⟩) (by simp)];simp [go_sem]
 ·have:=hb.size;simp at this;omega
theorem Mill.below7b {w wr:World} {o:Obj} (hb:Below (w.heap.size+1) (w.alloc o) wr) (c0 c1 c2 c3 c4 c5 c6:Value) :
  Below w.heap.size w (((((((wr.setCell ⟨w.heap.size,0,none⟩ c0).setCell ⟨w.heap.size,1,none⟩ c1).setCell ⟨w.heap.size,2,none⟩ c2).setCell ⟨w.heap.size,3,none⟩ c3).setCell ⟨w.heap.size,4,none⟩ c4).setCell ⟨w.heap.size,5,none⟩ c5).setCell ⟨w.heap.size,6,none⟩ c6) :=
 Mill.below7 _ (Nat.le_refl _) o (by simpa using hb) _ _ _ _ _ _ _
theorem Mill.isBuilder_new (T e:TypeId) (w:World):Lib.IsBuilderF T e w.heap.size w.heap.size (Lib.byteCells []) (w.alloc (.cells #[.pointer none,.slice none 0 0] T)):=Lib.IsBuilderF.of (Lib.fresh_isBuilder T e w)
theorem Mill.rb_drop (s:ByteArray) (i:Nat):(s.extract i s.size).data.toList=s.data.toList.drop i:=by
 rw [Lib.extract_data,List.take_of_length_le (by simp)]
theorem Mill.rbOk_eq (s:ByteArray) (i:Nat) (h:i+1 < s.size):Mill.rbOk (s.extract i s.size)=(decide (0≤Mill.hexOf s[i]) && decide (0≤Mill.hexOf s[i+1])):=by
 rw [Mill.rbOk,Mill.rb_drop,Mill.drop_cons s i (by omega),Mill.drop_cons s (i+1) (by omega)]
theorem Mill.rbOk_short (s:ByteArray) (i:Nat) (h:¬ i+1 < s.size):Mill.rbOk (s.extract i s.size)=false:=by
 rw [Mill.rbOk,Mill.rb_drop]
 have hl:(s.data.toList.drop i).length≤1:=by simp;omega
 match s.data.toList.drop i,hl with
 | [],_=>rfl
 | [a],_=>rfl
theorem Mill.rbVal_eq (s:ByteArray) (i:Nat) (h:i+1 < s.size):Mill.rbVal (s.extract i s.size)=16 * Mill.hexOf s[i]+Mill.hexOf s[i+1]:=by
 rw [Mill.rbVal,Mill.rb_drop,Mill.drop_cons s i (by omega),Mill.drop_cons s (i+1) (by omega)]
theorem Mill.textP_none (l:List UInt8) (h:Mill.unq l.tail []=none):Mill.textP l=Mill.bad 4:=by rw [Mill.textP,h]
theorem Mill.textP_some (l t r:List UInt8) (h:Mill.unq l.tail []=some (t,r)):Mill.textP l=if 3000 < t.length then Mill.bad 5 else ⟨4,t,0,0,l.length - r.length,0⟩:=by rw [Mill.textP,h]
def Mill.UnqPost (s:ByteArray) (w:World) (e:Ending) (w':World):Prop :=
 ((e = .returned (.tuple #[.string ⟨#[]⟩,.int .i64 0])∧Mill.textP s.data.toList=Mill.bad 4) ∨
  ∃ (t:ByteArray) (n:Nat),1≤n∧n≤1048576∧t.size≤1048576∧e = .returned (.tuple #[.string t,.int .i64 (n:Int)])∧Mill.textP s.data.toList=if 3000 < t.size then Mill.bad 5 else ⟨4,t.data.toList,0,0,n,0⟩)∧Below w.heap.size w w'
theorem unquoted_any (s:ByteArray) (w:World) (h1:1≤s.size) (hs:s.size≤1048576) :
  Calls Tryz.prog 91 #[.string s] w (Mill.UnqPost s w):=by
 have htl:s.data.toList.tail=s.data.toList.drop 1:=by simp
 go_enter Tryz.func91,Tryz.ntmps91
 go_wp2
 go_loopw [5,6,7,8] (fun t _ _ _ wr => ∃ (i:Nat) (acc:List UInt8),1≤i∧i≤s.size∧acc.length≤i∧t = .int .i64 (i:Int)∧Lib.IsBuilderF 145 5 w.heap.size w.heap.size (Lib.byteCells acc) wr∧Below w.heap.size w wr∧Mill.unq (s.data.toList.drop i) acc=Mill.unq s.data.toList.tail []) (fun t _ _ _ _=>s.size - (intOf t).toNat)
 case atStart =>
  exact ⟨1,[],by omega,by omega,by simp,rfl,Mill.isBuilder_new 145 5 w,(Below.refl _ _).alloc (Nat.le_refl _) _,by rw [htl]⟩
 case round =>
  obtain ⟨i,acc,hi1,hi2,hacc,rfl,hI,hbw,hu⟩:=hrel
  clear htl
  by_cases hlt:i < s.size
  ·rw [Mill.drop_cons s i hlt] at hu
   cases h34:((s[i].toNat:Int) == 34) with
   | true =>
    have HP:Hid (Mill.textP s.data.toList=if 3000 < (⟨acc.toArray⟩:ByteArray).size then Mill.bad 5 else ⟨4,(⟨acc.toArray⟩:ByteArray).data.toList,0,0,i+1,0⟩):=by
     rw [Mill.byte_eq _ 34 h34,Mill.unq_quote] at hu
     rw [Hid,Mill.textP_some _ _ _ hu.symm]
     have e1:s.data.toList.length - (s.data.toList.drop (i+1)).length=i+1:=by simp;omega
     have e2:(⟨acc.toArray⟩:ByteArray).size=acc.length:=rfl
     have e3:(⟨acc.toArray⟩:ByteArray).data.toList=acc:=rfl
     rw [e1,e2,e3]
    clear hu
    have hz:=hbw.size
    go_wp2_with (go_at_call 115;refine (Tryz.Builder_String_any_k w.heap.size w.heap.size acc _ hI hz).mono ?_;rintro e W1 ⟨rfl,k1,k2,k3⟩;have hbw1:=hbw.trans k2)
    exact bodyPost_ret (v:=.tuple #[.string ⟨acc.toArray⟩,.int .i64 ((i:Int)+1)]) (by simp [results,Tryz.results91,go_sem]) rfl ⟨.inr ⟨⟨acc.toArray⟩,i+1,by omega,by omega,by have e2:(⟨acc.toArray⟩:ByteArray).size=acc.length:=rfl;omega,by rw [show ((i+1:Nat):Int)=(i:Int)+1 by omega],HP.out⟩,hbw1⟩
   | false =>
    have n34:s[i]≠34:=Mill.byte_ne _ 34 h34
    cases h92:((s[i].toNat:Int) == 92) with
    | true =>
     have e92:s[i]=92:=Mill.byte_eq _ 92 h92
     rw [e92] at hu
     have hb1:32≤(s[i].toNat:Int):=by simp at h92;omega
     have hb2:(s[i].toNat:Int)≤126:=by simp at h92;omega
     have hz:=hbw.size
     cases hrb:Mill.rbOk (s.extract (i+1) s.size) with
     | true =>
      have h2:i+1+1 < s.size:=by
       by_cases h:i+1+1 < s.size
       ·exact h
       ·rw [Mill.rbOk_short s (i+1) h] at hrb;simp at hrb
      have hok:=hrb
      rw [Mill.rbOk_eq s (i+1) h2,Bool.and_eq_true,decide_eq_true_eq,decide_eq_true_eq] at hok
      have hv:=Mill.rbVal_eq s (i+1) h2
      rw [Mill.drop_cons s (i+1) (by omega),Mill.drop_cons s (i+1+1) (by omega),Mill.unq_hex,if_pos hok,← hv] at hu
      have ha:=Mill.hex_bd (s[i+1].toNat:Int)
      have hbd:=Mill.hex_bd (s[i+1+1].toNat:Int)
      have hv0:0≤Mill.rbVal (s.extract (i+1) s.size)∧Mill.rbVal (s.extract (i+1) s.size)≤255:=by
       rw [hv];unfold Mill.hexOf at *;omega
      obtain ⟨v,HV⟩:∃ v,Hid (Mill.rbVal (s.extract (i+1) s.size)=v):=⟨_,(rfl:Mill.rbVal (s.extract (i+1) s.size)=_)⟩
      rw [HV.out] at hu hv0
      obtain ⟨hv1,hv2⟩:=hv0
      have HU:Hid (Mill.unq (s.data.toList.drop (i+3)) (acc++[UInt8.ofNat v.toNat])=Mill.unq s.data.toList.tail []):=hu
      have HE:Hid (((UInt8.ofNat v.toNat).toNat:Int)=v):=Mill.ofNat_toNat v hv1 hv2
      clear hu n34 e92 hok hv ha hbd
      go_wp2_with (first
       | (go_at_call 116;refine (readByte_yes _ _ hrb).mono ?_;rintro e w' ⟨rfl,rfl⟩;rw [HV.out])
       | (go_at_call 117;refine (Tryz.Builder_WriteByte_k w.heap.size w.heap.size _ _ _ hI (by rw [Lib.byteCells_length];omega) hz).mono ?_;rintro e W1 ⟨rfl,k1,k2,k3⟩))
      go_roundw
      case rel=>exact ⟨i+3,acc++[UInt8.ofNat v.toNat],by omega,by omega,by simp;omega,by go_num,by rw [Mill.byteCells_snoc,HE.out];exact Or.inr k1,hbw.trans k2,HU.out⟩
      case measure=>simp [intOf];omega
     | false =>
      have HP:Hid (Mill.textP s.data.toList=Mill.bad 4):=by
       have hnone:Mill.unq (92::s.data.toList.drop (i+1)) acc=none:=by
        by_cases h2:i+1+1 < s.size
        ·rw [Mill.rbOk_eq s (i+1) h2] at hrb
         rw [Mill.drop_cons s (i+1) (by omega),Mill.drop_cons s (i+1+1) (by omega),Mill.unq_hex,if_neg (by
          rintro ⟨a,b⟩
          rw [decide_eq_true a,decide_eq_true b] at hrb;simp at hrb)]
        ·exact Mill.unq_short _ _ (by simp;omega)
       rw [hnone] at hu
       rw [Hid,Mill.textP_none _ hu.symm]
      clear hu n34 e92
      go_wp2_with (go_at_call 116;refine (readByte_no _ _ hrb).mono ?_;rintro e w' ⟨rfl,rfl⟩)
      exact bodyPost_ret (v:=.tuple #[.string ⟨#[]⟩,.int .i64 0]) (by simp [results,Tryz.results91,go_sem]) rfl ⟨.inl ⟨rfl,HP.out⟩,hbw⟩
    | false =>
     have n92:s[i]≠92:=Mill.byte_ne _ 92 h92
     by_cases hbr:32≤(s[i].toNat:Int)∧(s[i].toNat:Int)≤126
     ·obtain ⟨hb1,hb2⟩:=hbr
      have hba:Mill.isBare s[i]=true:=by
       have a1:(s[i].toNat:Int)≠34:=by simpa using h34
       have a2:(s[i].toNat:Int)≠92:=by simpa using h92
       simp [Mill.isBare,Mill.bare,hb1,hb2,a1,a2]
      have HU:Hid (Mill.unq (s.data.toList.drop (i+1)) (acc++[s[i]])=Mill.unq s.data.toList.tail []):=by
       rw [Mill.unq_bare _ _ _ n34 hba] at hu;exact hu
      clear hu n34 n92 hba
      have hz:=hbw.size
      go_wp2_with (go_at_call 117;refine (Tryz.Builder_WriteByte_k w.heap.size w.heap.size _ _ _ hI (by rw [Lib.byteCells_length];omega) hz).mono ?_;rintro e W1 ⟨rfl,k1,k2,k3⟩)
      go_roundw
      case rel=>exact ⟨i+1,acc++[s[i]],by omega,by omega,by simp;omega,by go_num,by rw [Mill.byteCells_snoc];exact Or.inr k1,hbw.trans k2,HU.out⟩
      case measure=>simp [intOf];omega
     ·have hnb:Mill.isBare s[i]=false:=by
       simp [Mill.isBare,Mill.bare];intro a b;exact absurd ⟨a,b⟩ hbr
      have HP:Hid (Mill.textP s.data.toList=Mill.bad 4):=by
       rw [Mill.unq_bad _ _ _ n34 hnb n92] at hu
       rw [Hid,Mill.textP_none _ hu.symm]
      clear hu n34 n92 hnb
      by_cases h32:(s[i].toNat:Int) < 32
      ·go_wp2
       exact bodyPost_ret (v:=.tuple #[.string ⟨#[]⟩,.int .i64 0]) (by simp [results,Tryz.results91,go_sem]) rfl ⟨.inl ⟨rfl,HP.out⟩,hbw⟩
      ·have h126:126 < (s[i].toNat:Int):=by omega
       go_wp2
       exact bodyPost_ret (v:=.tuple #[.string ⟨#[]⟩,.int .i64 0]) (by simp [results,Tryz.results91,go_sem]) rfl ⟨.inl ⟨rfl,HP.out⟩,hbw⟩
  ·have HP:Hid (Mill.textP s.data.toList=Mill.bad 4):=by
    rw [List.drop_of_length_le (by simp;omega)] at hu
    rw [Hid,Mill.textP_none _ (by rw [← hu];rfl)]
   clear hu
   go_wp2
   exact bodyPost_ret (v:=.tuple #[.string ⟨#[]⟩,.int .i64 0]) (by simp [results,Tryz.results91,go_sem]) rfl ⟨.inl ⟨rfl,HP.out⟩,hbw⟩
theorem readText_any (s:ByteArray) (w:World) (h1:1≤s.size) (hs:s.size≤1048576) :
  Calls Tryz.prog 63 #[.string s] w fun e w'=>e = .returned (Mill.pieceV (Mill.textP s.data.toList))∧Below w.heap.size w w':=by
 have HQ:Hid (∀ w,Calls Tryz.prog 91 #[.string s] w (Mill.UnqPost s w)):=fun w=>unquoted_any s w h1 hs
 go_enter Tryz.func63,Tryz.ntmps63
 go_wp2_with fail
 go_at_call 91
 refine (HQ.out _).mono ?_
 rintro e w1 ⟨hd,hb⟩
 have hbw:Below (w.heap.size+1) (w.alloc (.cells #[.int .i64 0,.string ByteArray.empty,.int .i64 0,.int .i64 0,.int .i64 0,.int .i64 0,.int .i64 0] 105)) w1:=by simp only [World.size_alloc] at hb;exact hb
 obtain ⟨d0,d1,d2,d3,d4,d5,d6⟩:=Mill.seven_cells hbw
 obtain ⟨g0,g1,g2,g3,g4,g5,g6,hz⟩:=Mill.seven_frozen hbw
 clear hb HQ
 rcases hd with ⟨rfl,hp⟩ | ⟨t,n,hn1,hn2,ht,rfl,hp⟩
 ·have HP:Hid (Mill.textP s.data.toList=Mill.bad 4):=hp
  clear hp
  go_wp2
  refine bodyPost_ret (v:=Mill.pieceV (Mill.bad 4)) (by simp [results,Tryz.results63,go_sem,d0,d1,d2,d3,d4,d5,d6,Mill.pieceV,Mill.bad,Mill.ba]) rfl ⟨Mill.ret_val (by rw [HP.out]),Mill.below7b hbw _ _ _ _ _ _ _⟩
 ·have hn0:((n:Int) == 0)=false:=by simp;omega
  by_cases h3:3000 < t.size
  ·have HP:Hid (Mill.textP s.data.toList=Mill.bad 5):=by rw [Hid,hp,if_pos h3]
   clear hp
   go_wp2
   refine bodyPost_ret (v:=Mill.pieceV (Mill.bad 5)) (by simp [results,Tryz.results63,go_sem,d0,d1,d2,d3,d4,d5,d6,Mill.pieceV,Mill.bad,Mill.ba]) rfl ⟨Mill.ret_val (by rw [HP.out]),Mill.below7b hbw _ _ _ _ _ _ _⟩
  ·have HP:Hid (Mill.textP s.data.toList=⟨4,t.data.toList,0,0,n,0⟩):=by rw [Hid,hp,if_neg h3]
   clear hp
   go_wp2
   refine bodyPost_ret (v:=Mill.pieceV ⟨4,t.data.toList,0,0,n,0⟩) (by simp [results,Tryz.results63,go_sem,d0,d1,d2,d3,d4,d5,d6,Mill.pieceV,Mill.ba]) rfl ⟨Mill.ret_val (by rw [HP.out]),Mill.below7b hbw _ _ _ _ _ _ _⟩
end Go.Proofs.YtlcckaffhnjneaaGreatDoor
namespace Go.Proofs.YtlcckaffhnjneaaGreatDoor
open Go.RowKit Go.Shelf
attribute [local go_sem] Oper.semAt_some
theorem tokens_in (n:Nat) (s:ByteArray) (w:World) :
  CallsIn Fence.wide n Tryz.prog 31 #[.string s] w fun e w'=>e = .returned (.func (.func 56) #[] #[.pointer (some ⟨w.heap.size,0,none⟩)])∧w'=w.alloc (.cells #[.string s] 9):=by
 refine callsIn_of_wp Tryz.func31 rfl trivial ?_ rfl
 simp only [Tryz.ntmps31,List.size_toArray,List.length_cons,List.length_nil,Nat.reduceAdd,Nat.reduceSub,Array.replicate_succ,Array.replicate_zero,List.push_toArray,List.append_toArray,List.nil_append,List.cons_append]
 gi_wp2
 go_ret
 exact ⟨rfl,rfl⟩
structure Mill.Kp (n₀:Nat) (W W':World):Prop where
 below:Below n₀ W W'
 walks:KeepsWalks W W'
 pieces:∀ (k:Nat) (c:Array Value) (fz:Nat × Nat),W.heap[k]? = some (Obj.cells c 105 fz)→W'.heap[k]? = W.heap[k]?
 strs:∀ (k:Nat) (c:Array Value) (fz:Nat × Nat),W.heap[k]? = some (Obj.cells c 9 fz)→W'.heap[k]? = W.heap[k]?
theorem Mill.Kp.trans {n₀:Nat} {A B C:World} (h:Mill.Kp n₀ A B) (k:Mill.Kp n₀ B C):Mill.Kp n₀ A C :=
 ⟨h.below.trans k.below,h.walks.trans k.walks,fun i c fz hi=>by
  have h1:=h.pieces i c fz hi
  rw [k.pieces i c fz (h1.trans hi),h1],fun i c fz hi=>by
  have h1:=h.strs i c fz hi
  rw [k.strs i c fz (h1.trans hi),h1]⟩
theorem Mill.Kp.put {n₀:Nat} {w:World} (hn:n₀≤w.heap.size) (W:World) (l:Nat) (o o':Obj) (hl:w.heap.size≤l) (h:W.heap[l]? = some o) (hc:o.isCells=false) (hw:o.isWalk=false):Mill.Kp n₀ W (W.putObj l o') :=
 ⟨belowK_b hn W l o o' hl h hc hw,walksK_b (w:=w) W l o o' hl h hc hw,fun k c fz hk=>World.putObj_heap_other (fun e=>by subst e;rw [hk] at h;cases h;simp [Obj.isCells] at hc),fun k c fz hk=>World.putObj_heap_other (fun e=>by subst e;rw [hk] at h;cases h;simp [Obj.isCells] at hc)⟩
def Mill.seqL : Nat→List UInt8→Nat→List (Mill.Piece × Nat)
 | 0,_,_=>[]
 | _+1,[],_=>[]
 | f+1,b::r,i=>if b=32∨b=10 then Mill.seqL f r (i+1)
   else if b=35 then Mill.seqL f ((b::r).drop (Mill.rem (b::r))) (i+Mill.rem (b::r))
   else if (Mill.one (b::r)).code≠0 then [(Mill.one (b::r),i)]
   else (Mill.one (b::r),i)::Mill.seqL f ((b::r).drop (Mill.one (b::r)).size) (i+(Mill.one (b::r)).size)
def Mill.fin : List (Mill.Piece × Nat)→List (Mill.Piece × Nat)→List (Mill.Piece × Nat) × Int × Nat
 | acc,[]=>(acc,0,0)
 | acc,x::r=>if x.1.code≠0 then ([],x.1.code,x.2) else Mill.fin (acc++[x]) r
theorem Mill.scan_seq : ∀ (f:Nat) (l:List UInt8) (i:Nat) (acc:List (Mill.Piece × Nat)),Mill.scanL f l i acc=Mill.fin acc (Mill.seqL f l i)
 | 0,_,_,_=>by rw [Mill.scanL,Mill.seqL,Mill.fin]
 | _+1,[],_,_=>by rw [Mill.scanL,Mill.seqL,Mill.fin]
 | f+1,b::r,i,acc=>by
  rw [Mill.scanL,Mill.seqL]
  by_cases h1:b=32∨b=10
  ·rw [if_pos h1,if_pos h1];exact Mill.scan_seq f _ _ _
  ·rw [if_neg h1,if_neg h1]
   by_cases h2:b=35
   ·rw [if_pos h2,if_pos h2];exact Mill.scan_seq f _ _ _
   ·rw [if_neg h2,if_neg h2]
    by_cases h3:(Mill.one (b::r)).code≠0
    ·rw [if_pos h3,if_pos h3,Mill.fin,if_pos h3]
    ·rw [if_neg h3,if_neg h3,Mill.fin,if_neg h3];exact Mill.scan_seq f _ _ _
theorem Mill.seq_gap (f i:Nat) (b:UInt8) (r:List UInt8) (h:b=32∨b=10):Mill.seqL (f+1) (b::r) i=Mill.seqL f r (i+1):=by rw [Mill.seqL,if_pos h]
theorem Mill.seq_rem (f i:Nat) (b:UInt8) (r:List UInt8) (h:¬ (b=32∨b=10)) (h2:b=35):Mill.seqL (f+1) (b::r) i=Mill.seqL f ((b::r).drop (Mill.rem (b::r))) (i+Mill.rem (b::r)):=by rw [Mill.seqL,if_neg h,if_pos h2]
theorem Mill.seq_bad (f i:Nat) (b:UInt8) (r:List UInt8) (h:¬ (b=32∨b=10)) (h2:b≠35) (h3:(Mill.one (b::r)).code≠0):Mill.seqL (f+1) (b::r) i=[(Mill.one (b::r),i)]:=by rw [Mill.seqL,if_neg h,if_neg h2,if_pos h3]
theorem Mill.seq_tok (f i:Nat) (b:UInt8) (r:List UInt8) (h:¬ (b=32∨b=10)) (h2:b≠35) (h3:(Mill.one (b::r)).code=0):Mill.seqL (f+1) (b::r) i=(Mill.one (b::r),i)::Mill.seqL f ((b::r).drop (Mill.one (b::r)).size) (i+(Mill.one (b::r)).size):=by rw [Mill.seqL,if_neg h,if_neg h2,if_neg (by simpa using h3)]
theorem Mill.seq_nil (f i:Nat):Mill.seqL f [] i=[]:=by cases f <;> rfl
def Mill.seq (s:ByteArray):List (Mill.Piece × Nat):=Mill.seqL (s.size+1) s.data.toList 0
theorem Mill.seq_len : ∀ (f:Nat) (l:List UInt8) (i:Nat),(Mill.seqL f l i).length≤f
 | 0,_,_=>by rw [Mill.seqL];simp
 | _+1,[],_=>by rw [Mill.seqL];simp
 | f+1,b::r,i=>by
  rw [Mill.seqL]
  repeat' split
  ·have:=Mill.seq_len f r (i+1);omega
  ·have:=Mill.seq_len f ((b::r).drop (Mill.rem (b::r))) (i+Mill.rem (b::r));omega
  ·simp
  ·have:=Mill.seq_len f ((b::r).drop (Mill.one (b::r)).size) (i+(Mill.one (b::r)).size);simp only [List.length_cons];omega
theorem Mill.ix_rem : ∀ l:List UInt8,Lib.indexByte l 10=if Mill.rem l < l.length then (Mill.rem l:Int) else -1
 | []=>by simp [Lib.indexByte]
 | b::r=>by
  have ih:=Mill.ix_rem r
  by_cases h:b=10
  ·subst h;simp [Lib.indexByte,Mill.rem,Mill.notNl]
  ·have hb:(b == 10)=false:=by simpa using h
   have hn:Mill.notNl b=true:=by simp [Mill.notNl,h]
   have hr:Mill.rem (b::r)=Mill.rem r+1:=by simp [Mill.rem,hn]
   rw [Lib.indexByte,hb,hr]
   simp only [Bool.false_eq_true,if_false,List.length_cons]
   by_cases h2:Mill.rem r < r.length
   ·rw [if_pos h2] at ih
    have hm:((Mill.rem r:Int) == -1)=false:=by simp
    rw [ih,hm,if_pos (show Mill.rem r+1 < r.length+1 by omega)];simp
   ·rw [if_neg h2] at ih
    rw [ih,if_neg (show ¬ Mill.rem r+1 < r.length+1 by omega)];simp
end Go.Proofs.YtlcckaffhnjneaaGreatDoor
namespace Go.Proofs.YtlcckaffhnjneaaGreatDoor
open Go.RowKit Go.Shelf
attribute [local go_sem] Oper.semAt_some
def Mill.encs (x:Mill.Piece × Nat):Array Value := #[.agg #[.int .i64 x.1.kind,.string (Mill.ba x.1.text),.int .i64 x.1.type,.int .i64 x.1.n,.int .i64 (x.2:Int)],.int .i64 x.1.code]
theorem Mill.grown_none {w w':World} (h:Below w.heap.size w w'):w.grownBy w' none:=⟨h.os,h.tape,h.output,h.size,fun k hk _=>h.block k hk⟩
theorem Mill.words_keeps {w w':World} {b:Nat} (h:Mill.Words w b) (hk:KeepsWalks w w'):Mill.Words w' b:=by
 obtain ⟨es,clock,h0,rest⟩:=h
 exact ⟨es,clock,hk.same b _ h0 rfl,rest⟩
theorem Mill.Globs.belowN {w w':World} {n:Nat} (h:Mill.Globs w) (hn:0 < n∧5 < n) (hb:Below n w w'):Mill.Globs w':=by
 have hbig:=h.big
 refine ⟨fun t h1 h2 => ?_, ?_,by have:=hb.size;omega⟩
 ·rw [hb.cell (p:=⟨0,t,none⟩) (show 0 < n by omega)];exact h.tab t h1 h2
 ·rw [hb.cell (p:=⟨5,0,none⟩) (show 5 < n by omega)];exact h.err
theorem Mill.rest_list (s:ByteArray) (i:Nat):(s.extract i s.size).data.toList=s.data.toList.drop i:=Mill.rb_drop s i
theorem Mill.rest_size (s:ByteArray) (i:Nat):(s.extract i s.size).size=s.size - i:=by
 have:=congrArg List.length (Mill.rb_drop s i)
 rw [List.length_drop] at this
 exact this
theorem Mill.y_cells {w2:World} {B:Nat} {u0 u1 u2 u3 u4 u5 u6:Value} (d0:w2.cell? ⟨B,0,none⟩=some u0) (d1:w2.cell? ⟨B,1,none⟩=some u1) (d2:w2.cell? ⟨B,2,none⟩=some u2) (d3:w2.cell? ⟨B,3,none⟩=some u3) (d4:w2.cell? ⟨B,4,none⟩=some u4) (d5:w2.cell? ⟨B,5,none⟩=some u5) (d6:w2.cell? ⟨B,6,none⟩=some u6) (c0 c1 c2 c3 c4 c5 c6 c7:Value) :
    ((((((((w2.setCell ⟨B,0,none⟩ c0).setCell ⟨B,1,none⟩ c1).setCell ⟨B,2,none⟩ c2).setCell ⟨B,3,none⟩ c3).setCell ⟨B,4,none⟩ c4).setCell ⟨B,5,none⟩ c5).setCell ⟨B,6,none⟩ c6).setCell ⟨B,4,none⟩ c7).cell? ⟨B,0,none⟩=some c0∧((((((((w2.setCell ⟨B,0,none⟩ c0).setCell ⟨B,1,none⟩ c1).setCell ⟨B,2,none⟩ c2).setCell ⟨B,3,none⟩ c3).setCell ⟨B,4,none⟩ c4).setCell ⟨B,5,none⟩ c5).setCell ⟨B,6,none⟩ c6).setCell ⟨B,4,none⟩ c7).cell? ⟨B,1,none⟩=some c1∧((((((((w2.setCell ⟨B,0,none⟩ c0).setCell ⟨B,1,none⟩ c1).setCell ⟨B,2,none⟩ c2).setCell ⟨B,3,none⟩ c3).setCell ⟨B,4,none⟩ c4).setCell ⟨B,5,none⟩ c5).setCell ⟨B,6,none⟩ c6).setCell ⟨B,4,none⟩ c7).cell? ⟨B,2,none⟩=some c2∧((((((((w2.setCell ⟨B,0,none⟩ c0).setCell ⟨B,1,none⟩ c1).setCell ⟨B,2,none⟩ c2).setCell ⟨B,3,none⟩ c3).setCell ⟨B,4,none⟩ c4).setCell ⟨B,5,none⟩ c5).setCell ⟨B,6,none⟩ c6).setCell ⟨B,4,none⟩ c7).cell? ⟨B,3,none⟩=some c3∧((((((((w2.setCell ⟨B,0,none⟩ c0).setCell ⟨B,1,none⟩ c1).setCell ⟨B,2,none⟩ c2).setCell ⟨B,3,none⟩ c3).setCell ⟨B,4,none⟩ c4).setCell ⟨B,5,none⟩ c5).setCell ⟨B,6,none⟩ c6).setCell ⟨B,4,none⟩ c7).cell? ⟨B,4,none⟩=some c7∧((((((((w2.setCell ⟨B,0,none⟩ c0).setCell ⟨B,1,none⟩ c1).setCell ⟨B,2,none⟩ c2).setCell ⟨B,3,none⟩ c3).setCell ⟨B,4,none⟩ c4).setCell ⟨B,5,none⟩ c5).setCell ⟨B,6,none⟩ c6).setCell ⟨B,4,none⟩ c7).cell? ⟨B,5,none⟩=some c5∧((((((((w2.setCell ⟨B,0,none⟩ c0).setCell ⟨B,1,none⟩ c1).setCell ⟨B,2,none⟩ c2).setCell ⟨B,3,none⟩ c3).setCell ⟨B,4,none⟩ c4).setCell ⟨B,5,none⟩ c5).setCell ⟨B,6,none⟩ c6).setCell ⟨B,4,none⟩ c7).cell? ⟨B,6,none⟩=some c6 :=
  ⟨(Eq.trans (World.cell?_setCell_other _ _ _ _ (by simp)) (Eq.trans (World.cell?_setCell_other _ _ _ _ (by simp)) (Eq.trans (World.cell?_setCell_other _ _ _ _ (by simp)) (Eq.trans (World.cell?_setCell_other _ _ _ _ (by simp)) (Eq.trans (World.cell?_setCell_other _ _ _ _ (by simp)) (Eq.trans (World.cell?_setCell_other _ _ _ _ (by simp)) (Eq.trans (World.cell?_setCell_other _ _ _ _ (by simp)) (World.cell?_setCell_same _ _ _ d0)))))))),
   (Eq.trans (World.cell?_setCell_other _ _ _ _ (by simp)) (Eq.trans (World.cell?_setCell_other _ _ _ _ (by simp)) (Eq.trans (World.cell?_setCell_other _ _ _ _ (by simp)) (Eq.trans (World.cell?_setCell_other _ _ _ _ (by simp)) (Eq.trans (World.cell?_setCell_other _ _ _ _ (by simp)) (Eq.trans (World.cell?_setCell_other _ _ _ _ (by simp)) (World.cell?_setCell_same _ _ _ (Eq.trans (World.cell?_setCell_other _ _ _ _ (by simp)) d1)))))))),
   (Eq.trans (World.cell?_setCell_other _ _ _ _ (by simp)) (Eq.trans (World.cell?_setCell_other _ _ _ _ (by simp)) (Eq.trans (World.cell?_setCell_other _ _ _ _ (by simp)) (Eq.trans (World.cell?_setCell_other _ _ _ _ (by simp)) (Eq.trans (World.cell?_setCell_other _ _ _ _ (by simp)) (World.cell?_setCell_same _ _ _ (Eq.trans (World.cell?_setCell_other _ _ _ _ (by simp)) (Eq.trans (World.cell?_setCell_other _ _ _ _ (by simp)) d2)))))))),
   (Eq.trans (World.cell?_setCell_other _ _ _ _ (by simp)) (Eq.trans (World.cell?_setCell_other _ _ _ _ (by simp)) (Eq.trans (World.cell?_setCell_other _ _ _ _ (by simp)) (Eq.trans (World.cell?_setCell_other _ _ _ _ (by simp)) (World.cell?_setCell_same _ _ _ (Eq.trans (World.cell?_setCell_other _ _ _ _ (by simp)) (Eq.trans (World.cell?_setCell_other _ _ _ _ (by simp)) (Eq.trans (World.cell?_setCell_other _ _ _ _ (by simp)) d3)))))))),
   World.cell?_setCell_same _ _ _ (Eq.trans (World.cell?_setCell_other _ _ _ _ (by simp)) (Eq.trans (World.cell?_setCell_other _ _ _ _ (by simp)) (World.cell?_setCell_same _ _ _ (Eq.trans (World.cell?_setCell_other _ _ _ _ (by simp)) (Eq.trans (World.cell?_setCell_other _ _ _ _ (by simp)) (Eq.trans (World.cell?_setCell_other _ _ _ _ (by simp)) (Eq.trans (World.cell?_setCell_other _ _ _ _ (by simp)) d4))))))),
   (Eq.trans (World.cell?_setCell_other _ _ _ _ (by simp)) (Eq.trans (World.cell?_setCell_other _ _ _ _ (by simp)) (World.cell?_setCell_same _ _ _ (Eq.trans (World.cell?_setCell_other _ _ _ _ (by simp)) (Eq.trans (World.cell?_setCell_other _ _ _ _ (by simp)) (Eq.trans (World.cell?_setCell_other _ _ _ _ (by simp)) (Eq.trans (World.cell?_setCell_other _ _ _ _ (by simp)) (Eq.trans (World.cell?_setCell_other _ _ _ _ (by simp)) d5)))))))),
   (Eq.trans (World.cell?_setCell_other _ _ _ _ (by simp)) (World.cell?_setCell_same _ _ _ (Eq.trans (World.cell?_setCell_other _ _ _ _ (by simp)) (Eq.trans (World.cell?_setCell_other _ _ _ _ (by simp)) (Eq.trans (World.cell?_setCell_other _ _ _ _ (by simp)) (Eq.trans (World.cell?_setCell_other _ _ _ _ (by simp)) (Eq.trans (World.cell?_setCell_other _ _ _ _ (by simp)) (Eq.trans (World.cell?_setCell_other _ _ _ _ (by simp)) d6))))))))⟩
def Mill.isP (w:World) (B:Nat):Prop := ∃ (c:Array Value) (fz:Nat × Nat),w.heap[B]? = some (Obj.cells c 105 fz)
theorem Mill.isP_set {w:World} {B:Nat} (h:Mill.isP w B) (a:Addr) (v:Value):Mill.isP (w.setCell a v) B:=by
 obtain ⟨c,fz,hc⟩:=h
 by_cases e:B=a.block
 ·refine ⟨if a.spot.isSome then c else c.setIfInBounds a.off v,fz, ?_⟩
  simp [World.setCell,Array.getElem?_modify,← e,hc]
 ·exact ⟨c,fz,by simp [World.setCell,Array.getElem?_modify,Ne.symm e,hc]⟩
theorem Mill.isP_cell {n₀:Nat} {A C:World} {B:Nat} (h:Mill.isP A B) (hk:Mill.Kp n₀ A C) (o:Nat):C.cell? ⟨B,o,none⟩=A.cell? ⟨B,o,none⟩:=by
 obtain ⟨c,fz,hc⟩:=h
 have:=hk.pieces B c fz hc
 simp [World.cell?,this]
theorem Mill.isP_new {w w2:World} {c:Array Value} (hb:Below (w.alloc (.cells c 105)).heap.size (w.alloc (.cells c 105)) w2):Mill.isP w2 w.heap.size :=
 ⟨c,_,(hb.block w.heap.size (by simp)).trans (World.alloc_heap_new w _)⟩
theorem Mill.seq_step (s:ByteArray) (i f:Nat) (hlt:i < s.size) (n32:s[i]≠32) (n10:s[i]≠10) (n35:s[i]≠35) :
  ∃ rest,Mill.seqL (f+1) (s.data.toList.drop i) i=(Mill.one (s.data.toList.drop i),i)::rest∧(((Mill.one (s.data.toList.drop i)).code≠0∧rest=[])∨((Mill.one (s.data.toList.drop i)).code=0∧1≤(Mill.one (s.data.toList.drop i)).size∧i+(Mill.one (s.data.toList.drop i)).size≤s.size∧rest=Mill.seqL f (s.data.toList.drop (i+(Mill.one (s.data.toList.drop i)).size)) (i+(Mill.one (s.data.toList.drop i)).size))):=by
 have hd:s.data.toList.drop i=s[i]::s.data.toList.drop (i+1):=Mill.drop_cons s i hlt
 have hn:¬ (s[i]=32∨s[i]=10):=fun h=>h.elim n32 n10
 by_cases h3:(Mill.one (s.data.toList.drop i)).code=0
 ·have hz:=Mill.one_size s[i] (s.data.toList.drop (i+1)) (by rw [← hd];exact h3)
  rw [← hd] at hz
  have hl:(s.data.toList.drop i).length=s.size - i:=by simp
  rw [hl] at hz
  refine ⟨_, ?_,.inr ⟨h3,hz.1,by omega,rfl⟩⟩
  have:=Mill.seq_tok f i s[i] (s.data.toList.drop (i+1)) hn n35 (by rw [← hd];exact h3)
  rw [← hd] at this
  rw [this,List.drop_drop]
 ·refine ⟨[], ?_,.inl ⟨h3,rfl⟩⟩
  have:=Mill.seq_bad f i s[i] (s.data.toList.drop (i+1)) hn n35 (by rw [← hd];exact h3)
  rw [← hd] at this
  exact this
theorem Mill.one_letter (s:ByteArray) (i:Nat) (hlt:i < s.size) (h:Mill.letter (s[i].toNat:Int)=true):Mill.one (s.data.toList.drop i)=Mill.nameP (Mill.wordOf (s.data.toList.drop i)):=by
 have hd:=Mill.drop_cons s i hlt
 simp [Mill.one,hd,h]
theorem Mill.one_digit (s:ByteArray) (i:Nat) (hlt:i < s.size) (h0:Mill.letter (s[i].toNat:Int)=false) (h:Mill.digit (s[i].toNat:Int)=true):Mill.one (s.data.toList.drop i)=Mill.intP (Mill.wordOf (s.data.toList.drop i)):=by
 have hd:=Mill.drop_cons s i hlt
 simp [Mill.one,hd,h0,h]
theorem Mill.one_quote (s:ByteArray) (i:Nat) (hlt:i < s.size) (h:s[i]=34):Mill.one (s.data.toList.drop i)=Mill.textP (s.data.toList.drop i):=by
 have hd:=Mill.drop_cons s i hlt
 rw [hd,h];rfl
theorem Mill.one_mark (s:ByteArray) (i:Nat) (hlt:i < s.size) (h0:Mill.letter (s[i].toNat:Int)=false) (h1:Mill.digit (s[i].toNat:Int)=false) (h:s[i]≠34):Mill.one (s.data.toList.drop i)=Mill.markP (s.data.toList.drop i):=by
 have hd:=Mill.drop_cons s i hlt
 simp [Mill.one,hd,h0,h1,h]
theorem Mill.dig_one (s:ByteArray) (i:Nat) (hlt:i < s.size) (h:Mill.digit (s[i].toNat:Int)=true):1≤Mill.digLen (Mill.wordOf (s.data.toList.drop i)):=by
 have hd:=Mill.drop_cons s i hlt
 have ht:Mill.isTail s[i]=true:=by simp [Mill.isTail,Mill.tail,h]
 have hg:Mill.isDig s[i]=true:=by simp [Mill.isDig,h]
 simp [Mill.wordOf,hd,Mill.digLen,ht,hg]
theorem tokens1_in (s:ByteArray) (hs:s.size≤12000) (l Bs n₀:Nat) (J Jx:List (Mill.Piece × Nat)→World→Prop) (W:World) (hn:0 < n₀∧5 < n₀) (hsrc:Boxed W Bs 9 (.string s)) (hG:Mill.Globs W) (hJ:AbidesFrom W.heap.size J)
  (hY:∀ pre x W1,J pre W1→pre.length < (Mill.seq s).length→YieldAt Fence.wide 1 Tryz.prog l (Mill.encs x) W1 fun e W'=>(e = .returned (.bool true)∧J (pre++[x]) W'∧Mill.Kp n₀ W1 W')∨(e = .returned (.bool false)∧Jx (pre++[x]) W'))
  (h0:J [] W) :
  CallsIn Fence.wide 2 Tryz.prog 56 #[.func (.yield l) #[] #[],.pointer (some ⟨Bs,0,none⟩)] W fun e W'=>(∃ v,e = .returned v)∧((∃ xs,xs=Mill.seq s∧J xs W')∨(∃ pre,pre <+: Mill.seq s∧Jx pre W')):=by
 refine callsIn_of_wp Tryz.func56 rfl trivial ?_ rfl
 simp only [Tryz.ntmps56,List.size_toArray,List.length_cons,List.length_nil,Nat.reduceAdd,Nat.reduceSub,Array.replicate_succ,Array.replicate_zero,List.push_toArray,List.append_toArray,List.nil_append,List.cons_append]
 refine wpIn_wide.2 (wp_scope_straight ((wpIn_wide (n:=2)).1 ?_))
 gi_wp2_with ((with_reducible refine And.intro ?_ ?_);exact trivial;gi_at_call 57;refine (callsIn_wide.2 (takenWords_any _)).mono ?_;rintro e w1 ⟨rfl,hM,hb1⟩)
 refine wpIn_label ?_
 gi_wp2
 have hz1:=hb1.size
 gi_loopw [4] (fun a wr => ∃ (i f:Nat) (pre:List (Mill.Piece × Nat)),i≤s.size∧s.size - i < f∧a = .int .i64 (i:Int)∧Mill.seq s=pre++Mill.seqL f (s.data.toList.drop i) i∧J pre wr∧Boxed wr Bs 9 (.string s)∧Mill.Words wr W.heap.size∧Mill.Globs wr∧W.heap.size≤wr.heap.size)
  (fun a _=>s.size - (intOf a).toNat)
 case atStart=>exact ⟨0,s.size+1,[],by omega,by omega,rfl,rfl,hJ [] W w1 none h0 (Mill.grown_none hb1) (fun r e=>by cases e),(hb1.block Bs hsrc.lt).trans hsrc,hM,hG.below hb1,hz1⟩
 case round =>
  obtain ⟨i,f,pre,hi,hf,rfl,hq,hJp,hbx,hW,hGr,hnr⟩:=hrel
  have hsr:=hbx.cell
  have hBw:=hbx.lt
  obtain ⟨f,rfl⟩:∃ g,f=g+1:=⟨f - 1,by omega⟩
  have hfull:s.size≤9223372036854775807:=by omega
  have keep:∀ w',Below wr.heap.size wr w'→J pre w'∧Boxed w' Bs 9 (.string s)∧Mill.Words w' W.heap.size∧Mill.Globs w'∧W.heap.size≤w'.heap.size:=fun w' hb =>
   ⟨hJ pre wr w' none hJp (Mill.grown_none hb) (fun r e=>by cases e),(hb.block Bs hBw).trans hbx,Mill.map_below hW hb,hGr.below hb,by have:=hb.size;omega⟩
  by_cases hlt:i < s.size
  ·have hb255:=s[i].toNat_lt
   have hsa:(wr.alloc (Obj.cells #[.int .i64 0,.string ⟨#[]⟩,.int .i64 0,.int .i64 0,.int .i64 0,.int .i64 0,.int .i64 0] 105)).cell? ⟨Bs,0,none⟩=some (.string s):=(((Below.refl _ wr).alloc (Nat.le_refl _) _).cell (p:=⟨Bs,0,none⟩) hBw).trans hsr
   have hd:s.data.toList.drop i=s[i]::s.data.toList.drop (i+1):=Mill.drop_cons s i hlt
   cases h32:((s[i].toNat:Int) == 32) with
   | true =>
    have HQ:Hid (Mill.seq s=pre++Mill.seqL f (s.data.toList.drop (i+1)) (i+1)):=by
     rw [hd,Mill.seq_gap _ _ _ _ (Or.inl (Mill.byte_eq _ 32 h32))] at hq;exact hq
    clear hq hd
    gi_wp2
    have k1:=keep _ ((Below.refl _ wr).alloc (Nat.le_refl _) (Obj.cells #[.int .i64 0,.string ⟨#[]⟩,.int .i64 0,.int .i64 0,.int .i64 0,.int .i64 0,.int .i64 0] 105))
    refine ⟨⟨i+1,f,pre,by omega,by omega,by go_num,HQ.out,k1⟩, ?_⟩
    simp [intOf];omega
   | false =>
    cases h10:((s[i].toNat:Int) == 10) with
    | true =>
     have HQ:Hid (Mill.seq s=pre++Mill.seqL f (s.data.toList.drop (i+1)) (i+1)):=by
      rw [hd,Mill.seq_gap _ _ _ _ (Or.inr (Mill.byte_eq _ 10 h10))] at hq;exact hq
     clear hq hd
     gi_wp2
     have k1:=keep _ ((Below.refl _ wr).alloc (Nat.le_refl _) (Obj.cells #[.int .i64 0,.string ⟨#[]⟩,.int .i64 0,.int .i64 0,.int .i64 0,.int .i64 0,.int .i64 0] 105))
     refine ⟨⟨i+1,f,pre,by omega,by omega,by go_num,HQ.out,k1⟩, ?_⟩
     simp [intOf];omega
    | false =>
     cases h35:((s[i].toNat:Int) == 35) with
     | true =>
      have n32:=Mill.byte_ne _ 32 h32
      have n10:=Mill.byte_ne _ 10 h10
      have e35:=Mill.byte_eq _ 35 h35
      have hln:(s.data.toList.drop i).length=s.size - i:=by simp
      have hix:=Mill.ix_rem (s.extract i s.size).data.toList
      rw [Mill.rest_list,hln,← Mill.rest_list] at hix
      have hq2:=Mill.seq_rem f i s[i] (s.data.toList.drop (i+1)) (fun h=>h.elim n32 n10) e35
      rw [← hd,List.drop_drop] at hq2
      rw [hq2] at hq
      have hr1:1≤Mill.rem (s.data.toList.drop i):=by rw [hd,e35];rw [Mill.rem,List.takeWhile_cons_of_pos (by rfl)];simp
      obtain ⟨r,HR⟩:∃ r,Hid (Mill.rem (s.data.toList.drop i)=r):=⟨_,(rfl:Mill.rem (s.data.toList.drop i)=_)⟩
      rw [Mill.rest_list,HR.out,← Mill.rest_list] at hix
      rw [HR.out] at hq hr1
      clear hq2 hd n32 n10 e35 hln
      have HQ:Hid (Mill.seq s=pre++Mill.seqL f (s.data.toList.drop (i+r)) (i+r)):=hq
      clear hq
      by_cases hrl:r < s.size - i
      ·have HX:Hid (Lib.indexByte (s.extract i s.size).data.toList ((10:Int).toNat.toUInt8)=(r:Int)):=by
        rw [if_pos hrl] at hix;exact hix
       clear hix
       gi_wp2_with (first
        | ((with_reducible refine And.intro ?_ ?_);exact trivial;gi_at_call 58;refine (callsIn_wide.2 (Tryz.strings_IndexByte _ _ _)).mono ?_;rintro e w' ⟨rfl,rfl⟩;rw [HX.out])
        | gi_in)
       have k1:=keep _ ((Below.refl _ wr).alloc (Nat.le_refl _) (Obj.cells #[.int .i64 0,.string ⟨#[]⟩,.int .i64 0,.int .i64 0,.int .i64 0,.int .i64 0,.int .i64 0] 105))
       refine ⟨⟨i+r,f,pre,by omega,by omega,by go_num,HQ.out,k1⟩, ?_⟩
       simp [intOf];omega
      ·have HX:Hid (Lib.indexByte (s.extract i s.size).data.toList ((10:Int).toNat.toUInt8) = -1):=by
        rw [if_neg hrl] at hix;exact hix
       clear hix
       have HQ2:Hid (Mill.seq s=pre):=by
        have:=HQ.out
        rw [List.drop_of_length_le (by simp;omega),Mill.seq_nil,List.append_nil] at this;exact this
       gi_wp2_with (first
        | ((with_reducible refine And.intro ?_ ?_);exact trivial;gi_at_call 58;refine (callsIn_wide.2 (Tryz.strings_IndexByte _ _ _)).mono ?_;rintro e w' ⟨rfl,rfl⟩;rw [HX.out])
        | gi_in)
       have k1:=keep _ ((Below.refl _ wr).alloc (Nat.le_refl _) (Obj.cells #[.int .i64 0,.string ⟨#[]⟩,.int .i64 0,.int .i64 0,.int .i64 0,.int .i64 0,.int .i64 0] 105))
       rw [Exit.noGoto_normal]
       go_end0
       exact ⟨⟨_,rfl⟩,.inl ⟨pre,HQ2.out.symm,k1.1⟩⟩
     | false =>
      cases hL:Mill.letter (s[i].toNat:Int) with
      | true =>
       have n32:=Mill.byte_ne _ 32 h32
       have n10:=Mill.byte_ne _ 10 h10
       have n35:=Mill.byte_ne _ 35 h35
       obtain ⟨rest,hst,hcase⟩:=Mill.seq_step s i f hlt n32 n10 n35
       rw [hst] at hq
       have hone:Mill.one (s.data.toList.drop i)=(Mill.nameP (Mill.wordOf (s.data.toList.drop i))):=Mill.one_letter s i hlt hL
       have hre:(s.extract i s.size).data.toList=s.data.toList.drop i:=Mill.rest_list s i
       have hrz:(s.extract i s.size).size=s.size - i:=Mill.rest_size s i
       obtain ⟨P,HP⟩:∃ P,Hid (Mill.one (s.data.toList.drop i)=P):=⟨_,(rfl:Mill.one (s.data.toList.drop i)=_)⟩
       rw [HP.out] at hq hcase hone
       have HV:Hid (Mill.pieceV (Mill.nameP (Mill.wordOf (s.extract i s.size).data.toList)) = .agg #[.int .i64 P.kind,.string (Mill.ba P.text),.int .i64 P.type,.int .i64 P.n,.int .i64 0,.int .i64 (P.size:Int),.int .i64 P.code]):=by
        rw [Hid,hre,← hone];rfl
       have HQ:Hid (Mill.seq s=pre++(P,i)::rest):=hq
       have hlen:pre.length < (Mill.seq s).length:=by rw [hq];simp
       have HC:Hid ((P.code≠0∧rest=[])∨(P.code=0∧1≤P.size∧i+P.size≤s.size∧rest=Mill.seqL f (s.data.toList.drop (i+P.size)) (i+P.size))):=hcase
       clear hq hst hd hone hcase n32 n10 n35 hre
       have hWa:=(keep _ ((Below.refl _ wr).alloc (Nat.le_refl _) (Obj.cells #[.int .i64 0,.string ⟨#[]⟩,.int .i64 0,.int .i64 0,.int .i64 0,.int .i64 0,.int .i64 0] 105))).2.2.1
       have hGa:=(keep _ ((Below.refl _ wr).alloc (Nat.le_refl _) (Obj.cells #[.int .i64 0,.string ⟨#[]⟩,.int .i64 0,.int .i64 0,.int .i64 0,.int .i64 0,.int .i64 0] 105))).2.2.2.1
       gi_wp2_with (first
        | ((with_reducible refine And.intro ?_ ?_);exact trivial;gi_at_call 59;refine (callsIn_wide.2 (isLetter_any _ _)).mono ?_;rintro e w' ⟨rfl,rfl⟩;rw [hL])
        | ((with_reducible refine And.intro ?_ ?_);exact trivial;gi_at_call 61;refine (callsIn_wide.2 (isDigit_any _ _)).mono ?_;rintro e w' ⟨rfl,rfl⟩;rw [hD])
        | gi_in)
       refine ⟨trivial, ?_⟩
       refine (callsIn_wide.2 (readName_any _ _ _ (by omega) hWa)).mono ?_
       rintro e w2 ⟨rfl,hb2⟩
       rw [HV.out]
       have hb3:Below (wr.heap.size+1) (wr.alloc (Obj.cells #[.int .i64 0,.string ⟨#[]⟩,.int .i64 0,.int .i64 0,.int .i64 0,.int .i64 0,.int .i64 0] 105)) w2:=by simpa using hb2
       have hbY:=(Mill.below7 _ (Nat.le_refl _) _ hb2 (.int .i64 P.kind) (.string (Mill.ba P.text)) (.int .i64 P.type) (.int .i64 P.n) (.int .i64 0) (.int .i64 (P.size:Int)) (.int .i64 P.code)).setCell (p:=⟨wr.heap.size,4,none⟩) (Nat.le_refl _) (.int .i64 (i:Int))
       obtain ⟨d0,d1,d2,d3,d4,d5,d6⟩:=Mill.seven_cells hb3
       obtain ⟨g0,g1,g2,g3,g4,g5,g6,hz2⟩:=Mill.seven_frozen hb3
       obtain ⟨y0,y1,y2,y3,y4,y5,y6⟩:=Mill.y_cells d0 d1 d2 d3 d4 d5 d6 (.int .i64 P.kind) (.string (Mill.ba P.text)) (.int .i64 P.type) (.int .i64 P.n) (.int .i64 0) (.int .i64 (P.size:Int)) (.int .i64 P.code) (.int .i64 (i:Int))
       obtain ⟨fn,tmps,assign,body,hy,hR⟩:=hY pre (P,i) _ (keep _ hbY).1 hlen
       dsimp only [Mill.encs] at hy
       have HB:Hid (_∧_):=⟨hb2,hbY⟩
       clear hb2 hb3 hbY hWa hGa hsa HV HP hrz
       gi_wp2
       refine hR.mono ?_
       have hp:=Mill.isP_set (Mill.isP_set (Mill.isP_set (Mill.isP_set (Mill.isP_set (Mill.isP_set (Mill.isP_set (Mill.isP_set (Mill.isP_new HB.out.1) ⟨wr.heap.size,0,none⟩ (.int .i64 P.kind)) ⟨wr.heap.size,1,none⟩ (.string (Mill.ba P.text))) ⟨wr.heap.size,2,none⟩ (.int .i64 P.type)) ⟨wr.heap.size,3,none⟩ (.int .i64 P.n)) ⟨wr.heap.size,4,none⟩ (.int .i64 0)) ⟨wr.heap.size,5,none⟩ (.int .i64 (P.size:Int))) ⟨wr.heap.size,6,none⟩ (.int .i64 P.code)) ⟨wr.heap.size,4,none⟩ (.int .i64 (i:Int))
       obtain ⟨jY,sY,wY,gY,zY⟩:=keep _ HB.out.2
       clear hy hR d0 d1 d2 d3 d4 d5 d6 g0 g1 g2 g3 g4 g5 g6 keep
       generalize ((((((((w2.setCell ⟨wr.heap.size,0,none⟩ (.int .i64 P.kind)).setCell ⟨wr.heap.size,1,none⟩ (.string (Mill.ba P.text))).setCell ⟨wr.heap.size,2,none⟩ (.int .i64 P.type)).setCell ⟨wr.heap.size,3,none⟩ (.int .i64 P.n)).setCell ⟨wr.heap.size,4,none⟩ (.int .i64 0)).setCell ⟨wr.heap.size,5,none⟩ (.int .i64 (P.size:Int))).setCell ⟨wr.heap.size,6,none⟩ (.int .i64 P.code)).setCell ⟨wr.heap.size,4,none⟩ (.int .i64 (i:Int)))=WY at *
       rintro e W3 (⟨rfl,hJ3,hk3⟩ | ⟨rfl,hJx3⟩)
       ·have z6:=(Mill.isP_cell hp hk3 6).trans y6
        have z5:=(Mill.isP_cell hp hk3 5).trans y5
        clear y0 y1 y2 y3 y4 y5 y6
        rcases HC.out with ⟨hc,hr⟩ | ⟨hc,hs1,hs2,hr⟩
        ·have hcb:(P.code != 0)=true:=by simp [hc]
         have HQ2:Hid (pre++[(P,i)]=Mill.seq s):=by rw [Hid,HQ.out,hr]
         clear hr hc HC HQ
         gi_wp2
         rw [Exit.noGoto_ret]
         refine bodyPost_ret (results_none rfl _ _ _) rfl ?_
         exact ⟨⟨_,rfl⟩,.inl ⟨_,HQ2.out,hJ3⟩⟩
        ·have hcb:(P.code != 0)=false:=by simp [hc]
         have HQ2:Hid (Mill.seq s=(pre++[(P,i)])++Mill.seqL f (s.data.toList.drop (i+P.size)) (i+P.size)):=by rw [Hid,HQ.out,hr];simp
         clear hr HC HQ
         gi_wp2
         go_roundw
         case rel=>exact ⟨i+P.size,f,pre++[(P,i)],by omega,by omega,by go_num,HQ2.out,hJ3,(hk3.strs Bs _ _ sY).trans sY,Mill.words_keeps wY hk3.walks,gY.belowN hn hk3.below,by have:=hk3.below.size;omega⟩
         case measure=>simp [intOf];omega
       ·gi_wp2
        rw [Exit.noGoto_ret]
        refine bodyPost_ret (results_none rfl _ _ _) rfl ?_
        exact ⟨⟨_,rfl⟩,.inr ⟨pre++[(P,i)],⟨rest,by rw [HQ.out];simp⟩,hJx3⟩⟩
      | false =>
       cases hD:Mill.digit (s[i].toNat:Int) with
       | true =>
        have n32:=Mill.byte_ne _ 32 h32
        have n10:=Mill.byte_ne _ 10 h10
        have n35:=Mill.byte_ne _ 35 h35
        obtain ⟨rest,hst,hcase⟩:=Mill.seq_step s i f hlt n32 n10 n35
        rw [hst] at hq
        have hone:Mill.one (s.data.toList.drop i)=(Mill.intP (Mill.wordOf (s.data.toList.drop i))):=Mill.one_digit s i hlt hL hD
        have hre:(s.extract i s.size).data.toList=s.data.toList.drop i:=Mill.rest_list s i
        have hrz:(s.extract i s.size).size=s.size - i:=Mill.rest_size s i
        have hdg:1≤Mill.digLen (Mill.wordOf (s.extract i s.size).data.toList):=by rw [hre];exact Mill.dig_one s i hlt hD
        obtain ⟨P,HP⟩:∃ P,Hid (Mill.one (s.data.toList.drop i)=P):=⟨_,(rfl:Mill.one (s.data.toList.drop i)=_)⟩
        rw [HP.out] at hq hcase hone
        have HV:Hid (Mill.pieceV (Mill.intP (Mill.wordOf (s.extract i s.size).data.toList)) = .agg #[.int .i64 P.kind,.string (Mill.ba P.text),.int .i64 P.type,.int .i64 P.n,.int .i64 0,.int .i64 (P.size:Int),.int .i64 P.code]):=by
         rw [Hid,hre,← hone];rfl
        have HQ:Hid (Mill.seq s=pre++(P,i)::rest):=hq
        have hlen:pre.length < (Mill.seq s).length:=by rw [hq];simp
        have HC:Hid ((P.code≠0∧rest=[])∨(P.code=0∧1≤P.size∧i+P.size≤s.size∧rest=Mill.seqL f (s.data.toList.drop (i+P.size)) (i+P.size))):=hcase
        clear hq hst hd hone hcase n32 n10 n35 hre
        have hWa:=(keep _ ((Below.refl _ wr).alloc (Nat.le_refl _) (Obj.cells #[.int .i64 0,.string ⟨#[]⟩,.int .i64 0,.int .i64 0,.int .i64 0,.int .i64 0,.int .i64 0] 105))).2.2.1
        have hGa:=(keep _ ((Below.refl _ wr).alloc (Nat.le_refl _) (Obj.cells #[.int .i64 0,.string ⟨#[]⟩,.int .i64 0,.int .i64 0,.int .i64 0,.int .i64 0,.int .i64 0] 105))).2.2.2.1
        gi_wp2_with (first
         | ((with_reducible refine And.intro ?_ ?_);exact trivial;gi_at_call 59;refine (callsIn_wide.2 (isLetter_any _ _)).mono ?_;rintro e w' ⟨rfl,rfl⟩;rw [hL])
         | ((with_reducible refine And.intro ?_ ?_);exact trivial;gi_at_call 61;refine (callsIn_wide.2 (isDigit_any _ _)).mono ?_;rintro e w' ⟨rfl,rfl⟩;rw [hD])
         | gi_in)
        refine ⟨trivial, ?_⟩
        refine (callsIn_wide.2 (readInt_any _ _ _ (by omega) hWa hGa hdg)).mono ?_
        rintro e w2 ⟨rfl,hb2⟩
        rw [HV.out]
        have hb3:Below (wr.heap.size+1) (wr.alloc (Obj.cells #[.int .i64 0,.string ⟨#[]⟩,.int .i64 0,.int .i64 0,.int .i64 0,.int .i64 0,.int .i64 0] 105)) w2:=by simpa using hb2
        have hbY:=(Mill.below7 _ (Nat.le_refl _) _ hb2 (.int .i64 P.kind) (.string (Mill.ba P.text)) (.int .i64 P.type) (.int .i64 P.n) (.int .i64 0) (.int .i64 (P.size:Int)) (.int .i64 P.code)).setCell (p:=⟨wr.heap.size,4,none⟩) (Nat.le_refl _) (.int .i64 (i:Int))
        obtain ⟨d0,d1,d2,d3,d4,d5,d6⟩:=Mill.seven_cells hb3
        obtain ⟨g0,g1,g2,g3,g4,g5,g6,hz2⟩:=Mill.seven_frozen hb3
        obtain ⟨y0,y1,y2,y3,y4,y5,y6⟩:=Mill.y_cells d0 d1 d2 d3 d4 d5 d6 (.int .i64 P.kind) (.string (Mill.ba P.text)) (.int .i64 P.type) (.int .i64 P.n) (.int .i64 0) (.int .i64 (P.size:Int)) (.int .i64 P.code) (.int .i64 (i:Int))
        obtain ⟨fn,tmps,assign,body,hy,hR⟩:=hY pre (P,i) _ (keep _ hbY).1 hlen
        dsimp only [Mill.encs] at hy
        have HB:Hid (_∧_):=⟨hb2,hbY⟩
        clear hb2 hb3 hbY hWa hGa hsa HV HP hrz
        gi_wp2
        refine hR.mono ?_
        have hp:=Mill.isP_set (Mill.isP_set (Mill.isP_set (Mill.isP_set (Mill.isP_set (Mill.isP_set (Mill.isP_set (Mill.isP_set (Mill.isP_new HB.out.1) ⟨wr.heap.size,0,none⟩ (.int .i64 P.kind)) ⟨wr.heap.size,1,none⟩ (.string (Mill.ba P.text))) ⟨wr.heap.size,2,none⟩ (.int .i64 P.type)) ⟨wr.heap.size,3,none⟩ (.int .i64 P.n)) ⟨wr.heap.size,4,none⟩ (.int .i64 0)) ⟨wr.heap.size,5,none⟩ (.int .i64 (P.size:Int))) ⟨wr.heap.size,6,none⟩ (.int .i64 P.code)) ⟨wr.heap.size,4,none⟩ (.int .i64 (i:Int))
        obtain ⟨jY,sY,wY,gY,zY⟩:=keep _ HB.out.2
        clear hy hR d0 d1 d2 d3 d4 d5 d6 g0 g1 g2 g3 g4 g5 g6 keep
        generalize ((((((((w2.setCell ⟨wr.heap.size,0,none⟩ (.int .i64 P.kind)).setCell ⟨wr.heap.size,1,none⟩ (.string (Mill.ba P.text))).setCell ⟨wr.heap.size,2,none⟩ (.int .i64 P.type)).setCell ⟨wr.heap.size,3,none⟩ (.int .i64 P.n)).setCell ⟨wr.heap.size,4,none⟩ (.int .i64 0)).setCell ⟨wr.heap.size,5,none⟩ (.int .i64 (P.size:Int))).setCell ⟨wr.heap.size,6,none⟩ (.int .i64 P.code)).setCell ⟨wr.heap.size,4,none⟩ (.int .i64 (i:Int)))=WY at *
        rintro e W3 (⟨rfl,hJ3,hk3⟩ | ⟨rfl,hJx3⟩)
        ·have z6:=(Mill.isP_cell hp hk3 6).trans y6
         have z5:=(Mill.isP_cell hp hk3 5).trans y5
         clear y0 y1 y2 y3 y4 y5 y6
         rcases HC.out with ⟨hc,hr⟩ | ⟨hc,hs1,hs2,hr⟩
         ·have hcb:(P.code != 0)=true:=by simp [hc]
          have HQ2:Hid (pre++[(P,i)]=Mill.seq s):=by rw [Hid,HQ.out,hr]
          clear hr hc HC HQ
          gi_wp2
          rw [Exit.noGoto_ret]
          refine bodyPost_ret (results_none rfl _ _ _) rfl ?_
          exact ⟨⟨_,rfl⟩,.inl ⟨_,HQ2.out,hJ3⟩⟩
         ·have hcb:(P.code != 0)=false:=by simp [hc]
          have HQ2:Hid (Mill.seq s=(pre++[(P,i)])++Mill.seqL f (s.data.toList.drop (i+P.size)) (i+P.size)):=by rw [Hid,HQ.out,hr];simp
          clear hr HC HQ
          gi_wp2
          go_roundw
          case rel=>exact ⟨i+P.size,f,pre++[(P,i)],by omega,by omega,by go_num,HQ2.out,hJ3,(hk3.strs Bs _ _ sY).trans sY,Mill.words_keeps wY hk3.walks,gY.belowN hn hk3.below,by have:=hk3.below.size;omega⟩
          case measure=>simp [intOf];omega
        ·gi_wp2
         rw [Exit.noGoto_ret]
         refine bodyPost_ret (results_none rfl _ _ _) rfl ?_
         exact ⟨⟨_,rfl⟩,.inr ⟨pre++[(P,i)],⟨rest,by rw [HQ.out];simp⟩,hJx3⟩⟩
       | false =>
        cases h34:((s[i].toNat:Int) == 34) with
        | true =>
         have n32:=Mill.byte_ne _ 32 h32
         have n10:=Mill.byte_ne _ 10 h10
         have n35:=Mill.byte_ne _ 35 h35
         obtain ⟨rest,hst,hcase⟩:=Mill.seq_step s i f hlt n32 n10 n35
         rw [hst] at hq
         have hone:Mill.one (s.data.toList.drop i)=(Mill.textP (s.data.toList.drop i)):=Mill.one_quote s i hlt (Mill.byte_eq _ 34 h34)
         have hre:(s.extract i s.size).data.toList=s.data.toList.drop i:=Mill.rest_list s i
         have hrz:(s.extract i s.size).size=s.size - i:=Mill.rest_size s i
         obtain ⟨P,HP⟩:∃ P,Hid (Mill.one (s.data.toList.drop i)=P):=⟨_,(rfl:Mill.one (s.data.toList.drop i)=_)⟩
         rw [HP.out] at hq hcase hone
         have HV:Hid (Mill.pieceV (Mill.textP (s.extract i s.size).data.toList) = .agg #[.int .i64 P.kind,.string (Mill.ba P.text),.int .i64 P.type,.int .i64 P.n,.int .i64 0,.int .i64 (P.size:Int),.int .i64 P.code]):=by
          rw [Hid,hre,← hone];rfl
         have HQ:Hid (Mill.seq s=pre++(P,i)::rest):=hq
         have hlen:pre.length < (Mill.seq s).length:=by rw [hq];simp
         have HC:Hid ((P.code≠0∧rest=[])∨(P.code=0∧1≤P.size∧i+P.size≤s.size∧rest=Mill.seqL f (s.data.toList.drop (i+P.size)) (i+P.size))):=hcase
         clear hq hst hd hone hcase n32 n10 n35 hre
         have hWa:=(keep _ ((Below.refl _ wr).alloc (Nat.le_refl _) (Obj.cells #[.int .i64 0,.string ⟨#[]⟩,.int .i64 0,.int .i64 0,.int .i64 0,.int .i64 0,.int .i64 0] 105))).2.2.1
         have hGa:=(keep _ ((Below.refl _ wr).alloc (Nat.le_refl _) (Obj.cells #[.int .i64 0,.string ⟨#[]⟩,.int .i64 0,.int .i64 0,.int .i64 0,.int .i64 0,.int .i64 0] 105))).2.2.2.1
         gi_wp2_with (first
          | ((with_reducible refine And.intro ?_ ?_);exact trivial;gi_at_call 59;refine (callsIn_wide.2 (isLetter_any _ _)).mono ?_;rintro e w' ⟨rfl,rfl⟩;rw [hL])
          | ((with_reducible refine And.intro ?_ ?_);exact trivial;gi_at_call 61;refine (callsIn_wide.2 (isDigit_any _ _)).mono ?_;rintro e w' ⟨rfl,rfl⟩;rw [hD])
          | gi_in)
         refine ⟨trivial, ?_⟩
         refine (callsIn_wide.2 (readText_any _ _ (by omega) (by omega))).mono ?_
         rintro e w2 ⟨rfl,hb2⟩
         rw [HV.out]
         have hb3:Below (wr.heap.size+1) (wr.alloc (Obj.cells #[.int .i64 0,.string ⟨#[]⟩,.int .i64 0,.int .i64 0,.int .i64 0,.int .i64 0,.int .i64 0] 105)) w2:=by simpa using hb2
         have hbY:=(Mill.below7 _ (Nat.le_refl _) _ hb2 (.int .i64 P.kind) (.string (Mill.ba P.text)) (.int .i64 P.type) (.int .i64 P.n) (.int .i64 0) (.int .i64 (P.size:Int)) (.int .i64 P.code)).setCell (p:=⟨wr.heap.size,4,none⟩) (Nat.le_refl _) (.int .i64 (i:Int))
         obtain ⟨d0,d1,d2,d3,d4,d5,d6⟩:=Mill.seven_cells hb3
         obtain ⟨g0,g1,g2,g3,g4,g5,g6,hz2⟩:=Mill.seven_frozen hb3
         obtain ⟨y0,y1,y2,y3,y4,y5,y6⟩:=Mill.y_cells d0 d1 d2 d3 d4 d5 d6 (.int .i64 P.kind) (.string (Mill.ba P.text)) (.int .i64 P.type) (.int .i64 P.n) (.int .i64 0) (.int .i64 (P.size:Int)) (.int .i64 P.code) (.int .i64 (i:Int))
         obtain ⟨fn,tmps,assign,body,hy,hR⟩:=hY pre (P,i) _ (keep _ hbY).1 hlen
         dsimp only [Mill.encs] at hy
         have HB:Hid (_∧_):=⟨hb2,hbY⟩
         clear hb2 hb3 hbY hWa hGa hsa HV HP hrz
         gi_wp2
         refine hR.mono ?_
         have hp:=Mill.isP_set (Mill.isP_set (Mill.isP_set (Mill.isP_set (Mill.isP_set (Mill.isP_set (Mill.isP_set (Mill.isP_set (Mill.isP_new HB.out.1) ⟨wr.heap.size,0,none⟩ (.int .i64 P.kind)) ⟨wr.heap.size,1,none⟩ (.string (Mill.ba P.text))) ⟨wr.heap.size,2,none⟩ (.int .i64 P.type)) ⟨wr.heap.size,3,none⟩ (.int .i64 P.n)) ⟨wr.heap.size,4,none⟩ (.int .i64 0)) ⟨wr.heap.size,5,none⟩ (.int .i64 (P.size:Int))) ⟨wr.heap.size,6,none⟩ (.int .i64 P.code)) ⟨wr.heap.size,4,none⟩ (.int .i64 (i:Int))
         obtain ⟨jY,sY,wY,gY,zY⟩:=keep _ HB.out.2
         clear hy hR d0 d1 d2 d3 d4 d5 d6 g0 g1 g2 g3 g4 g5 g6 keep
         generalize ((((((((w2.setCell ⟨wr.heap.size,0,none⟩ (.int .i64 P.kind)).setCell ⟨wr.heap.size,1,none⟩ (.string (Mill.ba P.text))).setCell ⟨wr.heap.size,2,none⟩ (.int .i64 P.type)).setCell ⟨wr.heap.size,3,none⟩ (.int .i64 P.n)).setCell ⟨wr.heap.size,4,none⟩ (.int .i64 0)).setCell ⟨wr.heap.size,5,none⟩ (.int .i64 (P.size:Int))).setCell ⟨wr.heap.size,6,none⟩ (.int .i64 P.code)).setCell ⟨wr.heap.size,4,none⟩ (.int .i64 (i:Int)))=WY at *
         rintro e W3 (⟨rfl,hJ3,hk3⟩ | ⟨rfl,hJx3⟩)
         ·have z6:=(Mill.isP_cell hp hk3 6).trans y6
          have z5:=(Mill.isP_cell hp hk3 5).trans y5
          clear y0 y1 y2 y3 y4 y5 y6
          rcases HC.out with ⟨hc,hr⟩ | ⟨hc,hs1,hs2,hr⟩
          ·have hcb:(P.code != 0)=true:=by simp [hc]
           have HQ2:Hid (pre++[(P,i)]=Mill.seq s):=by rw [Hid,HQ.out,hr]
           clear hr hc HC HQ
           gi_wp2
           rw [Exit.noGoto_ret]
           refine bodyPost_ret (results_none rfl _ _ _) rfl ?_
           exact ⟨⟨_,rfl⟩,.inl ⟨_,HQ2.out,hJ3⟩⟩
          ·have hcb:(P.code != 0)=false:=by simp [hc]
           have HQ2:Hid (Mill.seq s=(pre++[(P,i)])++Mill.seqL f (s.data.toList.drop (i+P.size)) (i+P.size)):=by rw [Hid,HQ.out,hr];simp
           clear hr HC HQ
           gi_wp2
           go_roundw
           case rel=>exact ⟨i+P.size,f,pre++[(P,i)],by omega,by omega,by go_num,HQ2.out,hJ3,(hk3.strs Bs _ _ sY).trans sY,Mill.words_keeps wY hk3.walks,gY.belowN hn hk3.below,by have:=hk3.below.size;omega⟩
           case measure=>simp [intOf];omega
         ·gi_wp2
          rw [Exit.noGoto_ret]
          refine bodyPost_ret (results_none rfl _ _ _) rfl ?_
          exact ⟨⟨_,rfl⟩,.inr ⟨pre++[(P,i)],⟨rest,by rw [HQ.out];simp⟩,hJx3⟩⟩
        | false =>
         have n32:=Mill.byte_ne _ 32 h32
         have n10:=Mill.byte_ne _ 10 h10
         have n35:=Mill.byte_ne _ 35 h35
         obtain ⟨rest,hst,hcase⟩:=Mill.seq_step s i f hlt n32 n10 n35
         rw [hst] at hq
         have hone:Mill.one (s.data.toList.drop i)=(Mill.markP (s.data.toList.drop i)):=Mill.one_mark s i hlt hL hD (Mill.byte_ne _ 34 h34)
         have hre:(s.extract i s.size).data.toList=s.data.toList.drop i:=Mill.rest_list s i
         have hrz:(s.extract i s.size).size=s.size - i:=Mill.rest_size s i
         obtain ⟨P,HP⟩:∃ P,Hid (Mill.one (s.data.toList.drop i)=P):=⟨_,(rfl:Mill.one (s.data.toList.drop i)=_)⟩
         rw [HP.out] at hq hcase hone
         have HV:Hid (Mill.pieceV (Mill.markP (s.extract i s.size).data.toList) = .agg #[.int .i64 P.kind,.string (Mill.ba P.text),.int .i64 P.type,.int .i64 P.n,.int .i64 0,.int .i64 (P.size:Int),.int .i64 P.code]):=by
          rw [Hid,hre,← hone];rfl
         have HQ:Hid (Mill.seq s=pre++(P,i)::rest):=hq
         have hlen:pre.length < (Mill.seq s).length:=by rw [hq];simp
         have HC:Hid ((P.code≠0∧rest=[])∨(P.code=0∧1≤P.size∧i+P.size≤s.size∧rest=Mill.seqL f (s.data.toList.drop (i+P.size)) (i+P.size))):=hcase
         clear hq hst hd hone hcase n32 n10 n35 hre
         have hWa:=(keep _ ((Below.refl _ wr).alloc (Nat.le_refl _) (Obj.cells #[.int .i64 0,.string ⟨#[]⟩,.int .i64 0,.int .i64 0,.int .i64 0,.int .i64 0,.int .i64 0] 105))).2.2.1
         have hGa:=(keep _ ((Below.refl _ wr).alloc (Nat.le_refl _) (Obj.cells #[.int .i64 0,.string ⟨#[]⟩,.int .i64 0,.int .i64 0,.int .i64 0,.int .i64 0,.int .i64 0] 105))).2.2.2.1
         gi_wp2_with (first
          | ((with_reducible refine And.intro ?_ ?_);exact trivial;gi_at_call 59;refine (callsIn_wide.2 (isLetter_any _ _)).mono ?_;rintro e w' ⟨rfl,rfl⟩;rw [hL])
          | ((with_reducible refine And.intro ?_ ?_);exact trivial;gi_at_call 61;refine (callsIn_wide.2 (isDigit_any _ _)).mono ?_;rintro e w' ⟨rfl,rfl⟩;rw [hD])
          | gi_in)
         refine ⟨trivial, ?_⟩
         refine (callsIn_wide.2 (readMark_any _ _ (by omega) (by omega))).mono ?_
         rintro e w2 ⟨rfl,hb2⟩
         rw [HV.out]
         have hb3:Below (wr.heap.size+1) (wr.alloc (Obj.cells #[.int .i64 0,.string ⟨#[]⟩,.int .i64 0,.int .i64 0,.int .i64 0,.int .i64 0,.int .i64 0] 105)) w2:=by simpa using hb2
         have hbY:=(Mill.below7 _ (Nat.le_refl _) _ hb2 (.int .i64 P.kind) (.string (Mill.ba P.text)) (.int .i64 P.type) (.int .i64 P.n) (.int .i64 0) (.int .i64 (P.size:Int)) (.int .i64 P.code)).setCell (p:=⟨wr.heap.size,4,none⟩) (Nat.le_refl _) (.int .i64 (i:Int))
         obtain ⟨d0,d1,d2,d3,d4,d5,d6⟩:=Mill.seven_cells hb3
         obtain ⟨g0,g1,g2,g3,g4,g5,g6,hz2⟩:=Mill.seven_frozen hb3
         obtain ⟨y0,y1,y2,y3,y4,y5,y6⟩:=Mill.y_cells d0 d1 d2 d3 d4 d5 d6 (.int .i64 P.kind) (.string (Mill.ba P.text)) (.int .i64 P.type) (.int .i64 P.n) (.int .i64 0) (.int .i64 (P.size:Int)) (.int .i64 P.code) (.int .i64 (i:Int))
         obtain ⟨fn,tmps,assign,body,hy,hR⟩:=hY pre (P,i) _ (keep _ hbY).1 hlen
         dsimp only [Mill.encs] at hy
         have HB:Hid (_∧_):=⟨hb2,hbY⟩
         clear hb2 hb3 hbY hWa hGa hsa HV HP hrz
         gi_wp2
         refine hR.mono ?_
         have hp:=Mill.isP_set (Mill.isP_set (Mill.isP_set (Mill.isP_set (Mill.isP_set (Mill.isP_set (Mill.isP_set (Mill.isP_set (Mill.isP_new HB.out.1) ⟨wr.heap.size,0,none⟩ (.int .i64 P.kind)) ⟨wr.heap.size,1,none⟩ (.string (Mill.ba P.text))) ⟨wr.heap.size,2,none⟩ (.int .i64 P.type)) ⟨wr.heap.size,3,none⟩ (.int .i64 P.n)) ⟨wr.heap.size,4,none⟩ (.int .i64 0)) ⟨wr.heap.size,5,none⟩ (.int .i64 (P.size:Int))) ⟨wr.heap.size,6,none⟩ (.int .i64 P.code)) ⟨wr.heap.size,4,none⟩ (.int .i64 (i:Int))
         obtain ⟨jY,sY,wY,gY,zY⟩:=keep _ HB.out.2
         clear hy hR d0 d1 d2 d3 d4 d5 d6 g0 g1 g2 g3 g4 g5 g6 keep
         generalize ((((((((w2.setCell ⟨wr.heap.size,0,none⟩ (.int .i64 P.kind)).setCell ⟨wr.heap.size,1,none⟩ (.string (Mill.ba P.text))).setCell ⟨wr.heap.size,2,none⟩ (.int .i64 P.type)).setCell ⟨wr.heap.size,3,none⟩ (.int .i64 P.n)).setCell ⟨wr.heap.size,4,none⟩ (.int .i64 0)).setCell ⟨wr.heap.size,5,none⟩ (.int .i64 (P.size:Int))).setCell ⟨wr.heap.size,6,none⟩ (.int .i64 P.code)).setCell ⟨wr.heap.size,4,none⟩ (.int .i64 (i:Int)))=WY at *
         rintro e W3 (⟨rfl,hJ3,hk3⟩ | ⟨rfl,hJx3⟩)
         ·have z6:=(Mill.isP_cell hp hk3 6).trans y6
          have z5:=(Mill.isP_cell hp hk3 5).trans y5
          clear y0 y1 y2 y3 y4 y5 y6
          rcases HC.out with ⟨hc,hr⟩ | ⟨hc,hs1,hs2,hr⟩
          ·have hcb:(P.code != 0)=true:=by simp [hc]
           have HQ2:Hid (pre++[(P,i)]=Mill.seq s):=by rw [Hid,HQ.out,hr]
           clear hr hc HC HQ
           gi_wp2
           rw [Exit.noGoto_ret]
           refine bodyPost_ret (results_none rfl _ _ _) rfl ?_
           exact ⟨⟨_,rfl⟩,.inl ⟨_,HQ2.out,hJ3⟩⟩
          ·have hcb:(P.code != 0)=false:=by simp [hc]
           have HQ2:Hid (Mill.seq s=(pre++[(P,i)])++Mill.seqL f (s.data.toList.drop (i+P.size)) (i+P.size)):=by rw [Hid,HQ.out,hr];simp
           clear hr HC HQ
           gi_wp2
           go_roundw
           case rel=>exact ⟨i+P.size,f,pre++[(P,i)],by omega,by omega,by go_num,HQ2.out,hJ3,(hk3.strs Bs _ _ sY).trans sY,Mill.words_keeps wY hk3.walks,gY.belowN hn hk3.below,by have:=hk3.below.size;omega⟩
           case measure=>simp [intOf];omega
         ·gi_wp2
          rw [Exit.noGoto_ret]
          refine bodyPost_ret (results_none rfl _ _ _) rfl ?_
          exact ⟨⟨_,rfl⟩,.inr ⟨pre++[(P,i)],⟨rest,by rw [HQ.out];simp⟩,hJx3⟩⟩
  ·have HQ:Hid (Mill.seq s=pre):=by
    rw [List.drop_of_length_le (by simp;omega),Mill.seq_nil,List.append_nil] at hq;exact hq
   clear hq
   gi_wp2
   rw [Exit.noGoto_normal]
   go_end0
   exact ⟨⟨_,rfl⟩,.inl ⟨pre,HQ.out.symm,hJp⟩⟩
end Go.Proofs.YtlcckaffhnjneaaGreatDoor
