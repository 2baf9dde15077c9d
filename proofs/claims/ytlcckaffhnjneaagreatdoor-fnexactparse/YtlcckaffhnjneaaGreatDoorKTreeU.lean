import Derived.Test.YtlcckaffhnjneaaGreatDoorKTreeG
import Derived.Test.YtlcckaffhnjneaaGreatDoorKScanL
import Derived.Test.YtlcckaffhnjneaaGreatDoorKTreeY
set_option maxRecDepth 100000
set_option maxHeartbeats 1000000
namespace Go.Proofs.YtlcckaffhnjneaaGreatDoor
open Go.RowKit Go.Maps Go.WideMaps
theorem Mill.tmap_below {H:Type} {P:Program} {k:TypeId} {R:Value→Option (DataW H × List MemPlace)} {b n:Nat} {D:DataW H} {w w':World} (h:w.ownsMap P k R b n D) (hb:Below w.heap.size w w'):w'.ownsMap P k R b n D:=by
 have hlt:=h.lt
 obtain ⟨es,clock,h0,rest⟩:=h
 exact ⟨es,clock,(hb.block b hlt).trans h0,rest⟩
def Mill.TWords (w:World) (b:Nat):Prop:=w.ownsMap Tryz.prog 9 (plainElem (H:=Unit) Tryz.prog 3) b 35 Mill.wordsD
theorem isType_any (b:Int) (w:World) :
  Calls Tryz.prog 102 #[.int .i64 b] w fun e w'=>e = .returned (.bool (decide (1≤b) && decide (b≤10)))∧w=w':=by
 go_enter Tryz.func102,Tryz.ntmps102
 go_wp2
 all_goals go_ret
 all_goals exact ⟨by simp [decide_eq_true_eq, *] <;> omega,rfl⟩
theorem isIntType_any (b:Int) (w:World) :
  Calls Tryz.prog 99 #[.int .i64 b] w fun e w'=>e = .returned (.bool (decide (3≤b) && decide (b≤10)))∧w=w':=by
 go_enter Tryz.func99,Tryz.ntmps99
 go_wp2
 all_goals go_ret
 all_goals exact ⟨by simp [decide_eq_true_eq, *] <;> omega,rfl⟩
theorem isIntType_is (t:Int) (b:Bool) (h:Hid ((decide (3≤t) && decide (t≤10))=b)) (w:World) :
  Calls Tryz.prog 99 #[.int .i64 t] w fun e w'=>e = .returned (.bool b)∧w=w':=by
 rw [← h.out];exact isIntType_any t w
theorem isType_is (t:Int) (b:Bool) (h:Hid ((decide (1≤t) && decide (t≤10))=b)) (w:World) :
  Calls Tryz.prog 102 #[.int .i64 t] w fun e w'=>e = .returned (.bool b)∧w=w':=by
 rw [← h.out];exact isType_any t w
theorem Mill.tw_all {α:Type} (p:α→Bool):∀ l:List α,((l.takeWhile p).length=l.length) ↔ l.all p=true
 | []=>by simp
 | a::r=>by
  cases h:p a with
  | true=>simp [h];simpa using Mill.tw_all p r
  | false=>simp [h]
theorem Mill.wlen_all (s:ByteArray):((Mill.wlen s 0:Int) == (s.size:Int))=s.data.toList.all (fun c=>Mill.tail (c.toNat:Int)):=by
 rw [Bool.eq_iff_iff]
 have h:=Mill.tw_all Mill.isTail s.data.toList
 simp only [Mill.wlen,List.drop_zero,Mill.wordOf,beq_iff_eq]
 have hl:s.data.toList.length=s.size:=by simp
 rw [hl] at h
 constructor
 ·intro h1;exact h.1 (by omega)
 ·intro h1;have:=h.2 h1;omega
theorem isName_any (s:ByteArray) (b:Nat) (w:World) (hs:s.size≤1048576) (hM:Mill.TWords w b) :
    Calls Tryz.prog 101 #[.string s,.map (some b)] w fun e w'=>e = .returned (.bool (Mill.nameOk s))∧Below w.heap.size w w':=by
  have hbs:=hM.lt
  by_cases h1:0 < s.size
  · have he:(s.toList == [])=false:=by
      rw [ByteArray.toList_eq]
      cases hl:s.data.toList with
      | nil => have : s.data.toList.length = s.size := by simp
               rw [hl] at this;simp at this;omega
      | cons a r=>rfl
    have he':s.toList.isEmpty=false:=by
      rw [ByteArray.toList_eq]
      cases hl:s.data.toList with
      | nil => have : s.data.toList.length = s.size := by simp
               rw [hl] at this;simp at this;omega
      | cons a r=>rfl
    have hw0:IntKind.i32.wrap (s[0].toNat:Int)=(s[0].toNat:Int):=by have:=s[0].toNat_lt;rw [IntKind.wrap_i32];omega
    by_cases h2:s.size≤30
    · cases hl:Mill.letter (s[0].toNat:Int) with
      | false =>
        have HV:Hid (Mill.nameOk s=false):=Mill.nameOk_letter s h1 hl
        go_enter Tryz.func101,Tryz.ntmps101
        go_wp2_with (go_at_call 59;refine (isLetter_any _ _).mono ?_;rintro e w' ⟨rfl,rfl⟩;first | rw [hl] | rw [hw0,hl])
        go_ret
        exact ⟨Mill.ret_bool HV.out.symm,Below.refl _ _⟩
      | true =>
        have hxm:s.size≤maxLen:=by unfold maxLen;omega
        have hba:Mill.ba s.data.toList=s:=rfl
        cases ht:Mill.taken s with
        | true =>
          have HV:Hid (Mill.nameOk s=false):=Mill.nameOk_taken s ht
          have HH:Hid (Maps.has Mill.wordsD (.string s.data.toList)=true):=by rw [Hid,Mill.words_has,hba];exact ht
          go_enter Tryz.func101,Tryz.ntmps101
          go_wp2_with (first
            | (go_at_call 59;refine (isLetter_any _ _).mono ?_;rintro e w' ⟨rfl,rfl⟩;first | rw [hl] | rw [hw0,hl])
            | (at_lookup;refine wpList_lookup_own_ok_int _ rfl _ _ 102 rfl 9 3 .i64 Tryz.lawStr Tryz.underlying102 Tryz.underlying3 (Tryz.zeroInt _) b 35 _ rfl hM _ _ rfl (keyOf_string_mk Tryz.underlying9 hxm) ?_;intro c hat hwc;rw [HH.out]))
          go_ret
          exact ⟨Mill.ret_bool HV.out.symm,Below.refl _ _⟩
        | false =>
          have HV:Hid (Mill.nameOk s=((Mill.wlen s 0:Int) == (s.size:Int))):=by rw [Hid,Mill.wlen_all];exact Mill.nameOk_rest s h1 h2 hl ht
          have HH:Hid (Maps.has Mill.wordsD (.string s.data.toList)=false):=by rw [Hid,Mill.words_has,hba];exact ht
          go_enter Tryz.func101,Tryz.ntmps101
          go_wp2_with (first
            | (go_at_call 59;refine (isLetter_any _ _).mono ?_;rintro e w' ⟨rfl,rfl⟩;first | rw [hl] | rw [hw0,hl])
            | (at_lookup;refine wpList_lookup_own_ok_int _ rfl _ _ 102 rfl 9 3 .i64 Tryz.lawStr Tryz.underlying102 Tryz.underlying3 (Tryz.zeroInt _) b 35 _ rfl hM _ _ rfl (keyOf_string_mk Tryz.underlying9 hxm) ?_;intro c hat hwc;rw [HH.out])
            | (go_at_call 87;refine (wordSize_any _ _ hs).mono ?_;rintro e w1 ⟨rfl,hb⟩))
          go_ret
          exact ⟨Mill.ret_bool HV.out.symm,hb⟩
    · have HV:Hid (Mill.nameOk s=false):=Mill.nameOk_size s (.inr (by omega))
      go_enter Tryz.func101,Tryz.ntmps101
      go_wp2_with fail
      go_ret
      exact ⟨Mill.ret_bool HV.out.symm,Below.refl _ _⟩
  · have HV:Hid (Mill.nameOk s=false):=Mill.nameOk_size s (.inl (by omega))
    have hlz:s.data.toList.length=s.size:=by simp
    have he:s.data.toList=[]:=List.eq_nil_of_length_eq_zero (by omega)
    have he1:s.toList.isEmpty=true:=by rw [ByteArray.toList_eq,he];rfl
    clear he hlz
    go_enter Tryz.func101,Tryz.ntmps101
    go_wp2_with fail
    go_ret
    exact ⟨Mill.ret_bool HV.out.symm,Below.refl _ _⟩
theorem isName_is (s:ByteArray) (c:Bool) (h:Hid (Mill.nameOk s=c)) (b:Nat) (w:World) (hs:s.size≤1048576) (hM:Mill.TWords w b) :
  Calls Tryz.prog 101 #[.string s,.map (some b)] w fun e w'=>e = .returned (.bool c)∧Below w.heap.size w w':=by
 rw [← h.out];exact isName_any s b w hs hM
end Go.Proofs.YtlcckaffhnjneaaGreatDoor
namespace Go.Proofs.YtlcckaffhnjneaaGreatDoor
open Go.RowKit Go.Maps Go.WideMaps
def Mill.useR (d:Mill.Nd):Bool :=
 if d.kind=1 then decide (3≤d.type) && decide (d.type≤10) && decide (IntKind.u64.wrap d.n≤Mill.maxOf d.type)
 else if d.kind=2 then decide (d.text.size≤3000)
 else if d.kind=4∨d.kind=7∨d.kind=10∨d.kind=11 then Mill.nameOk d.text
 else if d.kind=5 then decide (1≤d.op) && decide (d.op≤3)
 else if d.kind=6 then decide (1≤d.op) && decide (d.op≤18)
 else if d.kind=8 then decide (1≤d.op) && decide (d.op≤12)
 else if d.kind=9 then decide (3≤d.type) && decide (d.type≤10)
 else if d.kind=22 then Mill.nameOk d.text && (decide (1≤d.type) && decide (d.type≤10))
 else if d.kind=23 then Mill.nameOk d.text && ((decide (1≤d.type) && decide (d.type≤10)) || (d.type == 0))
 else true
def Mill.Greats (w:World):Prop:=(∀ t:Nat,3≤t→t≤10→w.cell? ⟨0,t,none⟩=some (.int .u64 (Mill.maxOf (t:Int))))∧0 < w.heap.size
theorem usesRight_2 (o t y:Int) (x:ByteArray) (k:Int) (b:Nat) (w:World) :
  Calls Tryz.prog 72 #[Mill.ndV ⟨2,o,t,y,x,k⟩,.map (some b)] w fun e w'=>e = .returned (.bool (Mill.useR ⟨2,o,t,y,x,k⟩))∧Below w.heap.size w w':=by
 have HF:Hid (Mill.useR ⟨2,o,t,y,x,k⟩=decide ((x.size:Int)≤3000)):=by rw [Hid,Bool.eq_iff_iff];simp [Mill.useR];omega
 simp only [Mill.ndV]
 go_enter Tryz.func72,Tryz.ntmps72
 go_wp2
 go_ret
 exact ⟨Mill.ret_bool HF.out.symm,(Below.refl _ w).alloc (Nat.le_refl _) _⟩
theorem usesRight_5 (o t y:Int) (x:ByteArray) (k:Int) (b:Nat) (w:World) :
  Calls Tryz.prog 72 #[Mill.ndV ⟨5,o,t,y,x,k⟩,.map (some b)] w fun e w'=>e = .returned (.bool (Mill.useR ⟨5,o,t,y,x,k⟩))∧Below w.heap.size w w':=by
 simp only [Mill.ndV]
 go_enter Tryz.func72,Tryz.ntmps72
 go_wp2
 all_goals go_ret
 all_goals exact ⟨Mill.ret_bool (by go_light;simp_all [Mill.useR] <;> omega),(Below.refl _ w).alloc (Nat.le_refl _) _⟩
theorem usesRight_6 (o t y:Int) (x:ByteArray) (k:Int) (b:Nat) (w:World) :
  Calls Tryz.prog 72 #[Mill.ndV ⟨6,o,t,y,x,k⟩,.map (some b)] w fun e w'=>e = .returned (.bool (Mill.useR ⟨6,o,t,y,x,k⟩))∧Below w.heap.size w w':=by
 simp only [Mill.ndV]
 go_enter Tryz.func72,Tryz.ntmps72
 go_wp2
 all_goals go_ret
 all_goals exact ⟨Mill.ret_bool (by go_light;simp_all [Mill.useR] <;> omega),(Below.refl _ w).alloc (Nat.le_refl _) _⟩
theorem usesRight_8 (o t y:Int) (x:ByteArray) (k:Int) (b:Nat) (w:World) :
  Calls Tryz.prog 72 #[Mill.ndV ⟨8,o,t,y,x,k⟩,.map (some b)] w fun e w'=>e = .returned (.bool (Mill.useR ⟨8,o,t,y,x,k⟩))∧Below w.heap.size w w':=by
 simp only [Mill.ndV]
 go_enter Tryz.func72,Tryz.ntmps72
 go_wp2
 all_goals go_ret
 all_goals exact ⟨Mill.ret_bool (by go_light;simp_all [Mill.useR] <;> omega),(Below.refl _ w).alloc (Nat.le_refl _) _⟩
theorem usesRight_9 (o t y:Int) (x:ByteArray) (k:Int) (b:Nat) (w:World) :
  Calls Tryz.prog 72 #[Mill.ndV ⟨9,o,t,y,x,k⟩,.map (some b)] w fun e w'=>e = .returned (.bool (Mill.useR ⟨9,o,t,y,x,k⟩))∧Below w.heap.size w w':=by
 have HF:Hid (Mill.useR ⟨9,o,t,y,x,k⟩=(decide (3≤t) && decide (t≤10))):=by rw [Hid];simp [Mill.useR]
 simp only [Mill.ndV]
 go_enter Tryz.func72,Tryz.ntmps72
 go_wp2_with (go_at_call 99;refine (isIntType_any _ _).mono ?_;rintro e w' ⟨rfl,rfl⟩)
 go_ret
 exact ⟨Mill.ret_bool HF.out.symm,(Below.refl _ w).alloc (Nat.le_refl _) _⟩
theorem usesRight_4 (o t y:Int) (x:ByteArray) (k:Int) (b:Nat) (w:World) (hs:x.size≤1048576) (hM:Mill.TWords w b) :
  Calls Tryz.prog 72 #[Mill.ndV ⟨4,o,t,y,x,k⟩,.map (some b)] w fun e w'=>e = .returned (.bool (Mill.useR ⟨4,o,t,y,x,k⟩))∧Below w.heap.size w w':=by
 have HF:Hid (Mill.useR ⟨4,o,t,y,x,k⟩=Mill.nameOk x):=by rw [Hid];simp [Mill.useR]
 simp only [Mill.ndV]
 go_enter Tryz.func72,Tryz.ntmps72
 go_wp2_with (go_at_call 101;refine (isName_any x b _ hs (hM.alloc _)).mono ?_;rintro e w1 ⟨rfl,hb⟩;rw [World.size_alloc] at hb)
 go_ret
 exact ⟨Mill.ret_bool HF.out.symm,Mill.nd_below hb⟩
theorem usesRight_7 (o t y:Int) (x:ByteArray) (k:Int) (b:Nat) (w:World) (hs:x.size≤1048576) (hM:Mill.TWords w b) :
  Calls Tryz.prog 72 #[Mill.ndV ⟨7,o,t,y,x,k⟩,.map (some b)] w fun e w'=>e = .returned (.bool (Mill.useR ⟨7,o,t,y,x,k⟩))∧Below w.heap.size w w':=by
 have HF:Hid (Mill.useR ⟨7,o,t,y,x,k⟩=Mill.nameOk x):=by rw [Hid];simp [Mill.useR]
 simp only [Mill.ndV]
 go_enter Tryz.func72,Tryz.ntmps72
 go_wp2_with (go_at_call 101;refine (isName_any x b _ hs (hM.alloc _)).mono ?_;rintro e w1 ⟨rfl,hb⟩;rw [World.size_alloc] at hb)
 go_ret
 exact ⟨Mill.ret_bool HF.out.symm,Mill.nd_below hb⟩
theorem usesRight_10 (o t y:Int) (x:ByteArray) (k:Int) (b:Nat) (w:World) (hs:x.size≤1048576) (hM:Mill.TWords w b) :
  Calls Tryz.prog 72 #[Mill.ndV ⟨10,o,t,y,x,k⟩,.map (some b)] w fun e w'=>e = .returned (.bool (Mill.useR ⟨10,o,t,y,x,k⟩))∧Below w.heap.size w w':=by
 have HF:Hid (Mill.useR ⟨10,o,t,y,x,k⟩=Mill.nameOk x):=by rw [Hid];simp [Mill.useR]
 simp only [Mill.ndV]
 go_enter Tryz.func72,Tryz.ntmps72
 go_wp2_with (go_at_call 101;refine (isName_any x b _ hs (hM.alloc _)).mono ?_;rintro e w1 ⟨rfl,hb⟩;rw [World.size_alloc] at hb)
 go_ret
 exact ⟨Mill.ret_bool HF.out.symm,Mill.nd_below hb⟩
theorem usesRight_11 (o t y:Int) (x:ByteArray) (k:Int) (b:Nat) (w:World) (hs:x.size≤1048576) (hM:Mill.TWords w b) :
  Calls Tryz.prog 72 #[Mill.ndV ⟨11,o,t,y,x,k⟩,.map (some b)] w fun e w'=>e = .returned (.bool (Mill.useR ⟨11,o,t,y,x,k⟩))∧Below w.heap.size w w':=by
 have HF:Hid (Mill.useR ⟨11,o,t,y,x,k⟩=Mill.nameOk x):=by rw [Hid];simp [Mill.useR]
 simp only [Mill.ndV]
 go_enter Tryz.func72,Tryz.ntmps72
 go_wp2_with (go_at_call 101;refine (isName_any x b _ hs (hM.alloc _)).mono ?_;rintro e w1 ⟨rfl,hb⟩;rw [World.size_alloc] at hb)
 go_ret
 exact ⟨Mill.ret_bool HF.out.symm,Mill.nd_below hb⟩
theorem usesRight_22 (o t y:Int) (x:ByteArray) (k:Int) (b:Nat) (w:World) (hs:x.size≤1048576) (hM:Mill.TWords w b) :
  Calls Tryz.prog 72 #[Mill.ndV ⟨22,o,t,y,x,k⟩,.map (some b)] w fun e w'=>e = .returned (.bool (Mill.useR ⟨22,o,t,y,x,k⟩))∧Below w.heap.size w w':=by
 obtain ⟨q,HQ⟩:∃ q,Hid (Mill.nameOk x=q):=⟨_,(rfl:Mill.nameOk x=_)⟩
 obtain ⟨r,HR⟩:∃ r,Hid ((decide (1≤t) && decide (t≤10))=r):=⟨_,(rfl:(decide (1≤t) && decide (t≤10))=_)⟩
 have HF:Hid (Mill.useR ⟨22,o,t,y,x,k⟩=(q && r)):=by rw [Hid,← HQ.out,← HR.out];simp [Mill.useR]
 cases q <;> cases r
 all_goals
  simp only [Mill.ndV]
  go_enter Tryz.func72,Tryz.ntmps72
  go_wp2_with (first
   | (go_at_call 101;refine (isName_is x _ HQ b _ hs (hM.alloc _)).mono ?_;rintro e w1 ⟨rfl,hb⟩;rw [World.size_alloc] at hb;obtain ⟨g0,g1,g2,g3,g4,g5⟩:=Mill.nd_cells hb)
   | (go_at_call 102;refine (isType_is t _ HR _).mono ?_;rintro e w' ⟨rfl,rfl⟩))
  go_ret
  exact ⟨Mill.ret_bool (by rw [HF.out];rfl),Mill.nd_below hb⟩
theorem usesRight_23 (o t y:Int) (x:ByteArray) (k:Int) (b:Nat) (w:World) (hs:x.size≤1048576) (hM:Mill.TWords w b) :
  Calls Tryz.prog 72 #[Mill.ndV ⟨23,o,t,y,x,k⟩,.map (some b)] w fun e w'=>e = .returned (.bool (Mill.useR ⟨23,o,t,y,x,k⟩))∧Below w.heap.size w w':=by
 obtain ⟨q,HQ⟩:∃ q,Hid (Mill.nameOk x=q):=⟨_,(rfl:Mill.nameOk x=_)⟩
 obtain ⟨r,HR⟩:∃ r,Hid ((decide (1≤t) && decide (t≤10))=r):=⟨_,(rfl:(decide (1≤t) && decide (t≤10))=_)⟩
 have HF:Hid (Mill.useR ⟨23,o,t,y,x,k⟩=(q && (r || (t == 0)))):=by rw [Hid,← HQ.out,← HR.out];simp [Mill.useR]
 cases q <;> cases r
 all_goals
  simp only [Mill.ndV]
  go_enter Tryz.func72,Tryz.ntmps72
  go_wp2_with (first
   | (go_at_call 101;refine (isName_is x _ HQ b _ hs (hM.alloc _)).mono ?_;rintro e w1 ⟨rfl,hb⟩;rw [World.size_alloc] at hb;obtain ⟨g0,g1,g2,g3,g4,g5⟩:=Mill.nd_cells hb)
   | (go_at_call 102;refine (isType_is t _ HR _).mono ?_;rintro e w' ⟨rfl,rfl⟩))
  go_ret
  exact ⟨Mill.ret_bool (by rw [HF.out];rfl),Mill.nd_below hb⟩
theorem usesRight_3 (o t y:Int) (x:ByteArray) (k:Int) (b:Nat) (w:World) :
  Calls Tryz.prog 72 #[Mill.ndV ⟨3,o,t,y,x,k⟩,.map (some b)] w fun e w'=>e = .returned (.bool (Mill.useR ⟨3,o,t,y,x,k⟩))∧Below w.heap.size w w':=by
 have HF:Hid (Mill.useR ⟨3,o,t,y,x,k⟩=true):=by rw [Hid];simp [Mill.useR]
 simp only [Mill.ndV]
 go_enter Tryz.func72,Tryz.ntmps72
 go_wp2
 go_ret
 exact ⟨Mill.ret_bool HF.out.symm,(Below.refl _ w).alloc (Nat.le_refl _) _⟩
theorem usesRight_12 (o t y:Int) (x:ByteArray) (k:Int) (b:Nat) (w:World) :
  Calls Tryz.prog 72 #[Mill.ndV ⟨12,o,t,y,x,k⟩,.map (some b)] w fun e w'=>e = .returned (.bool (Mill.useR ⟨12,o,t,y,x,k⟩))∧Below w.heap.size w w':=by
 have HF:Hid (Mill.useR ⟨12,o,t,y,x,k⟩=true):=by rw [Hid];simp [Mill.useR]
 simp only [Mill.ndV]
 go_enter Tryz.func72,Tryz.ntmps72
 go_wp2
 go_ret
 exact ⟨Mill.ret_bool HF.out.symm,(Below.refl _ w).alloc (Nat.le_refl _) _⟩
theorem usesRight_13 (o t y:Int) (x:ByteArray) (k:Int) (b:Nat) (w:World) :
  Calls Tryz.prog 72 #[Mill.ndV ⟨13,o,t,y,x,k⟩,.map (some b)] w fun e w'=>e = .returned (.bool (Mill.useR ⟨13,o,t,y,x,k⟩))∧Below w.heap.size w w':=by
 have HF:Hid (Mill.useR ⟨13,o,t,y,x,k⟩=true):=by rw [Hid];simp [Mill.useR]
 simp only [Mill.ndV]
 go_enter Tryz.func72,Tryz.ntmps72
 go_wp2
 go_ret
 exact ⟨Mill.ret_bool HF.out.symm,(Below.refl _ w).alloc (Nat.le_refl _) _⟩
theorem usesRight_14 (o t y:Int) (x:ByteArray) (k:Int) (b:Nat) (w:World) :
  Calls Tryz.prog 72 #[Mill.ndV ⟨14,o,t,y,x,k⟩,.map (some b)] w fun e w'=>e = .returned (.bool (Mill.useR ⟨14,o,t,y,x,k⟩))∧Below w.heap.size w w':=by
 have HF:Hid (Mill.useR ⟨14,o,t,y,x,k⟩=true):=by rw [Hid];simp [Mill.useR]
 simp only [Mill.ndV]
 go_enter Tryz.func72,Tryz.ntmps72
 go_wp2
 go_ret
 exact ⟨Mill.ret_bool HF.out.symm,(Below.refl _ w).alloc (Nat.le_refl _) _⟩
theorem usesRight_15 (o t y:Int) (x:ByteArray) (k:Int) (b:Nat) (w:World) :
  Calls Tryz.prog 72 #[Mill.ndV ⟨15,o,t,y,x,k⟩,.map (some b)] w fun e w'=>e = .returned (.bool (Mill.useR ⟨15,o,t,y,x,k⟩))∧Below w.heap.size w w':=by
 have HF:Hid (Mill.useR ⟨15,o,t,y,x,k⟩=true):=by rw [Hid];simp [Mill.useR]
 simp only [Mill.ndV]
 go_enter Tryz.func72,Tryz.ntmps72
 go_wp2
 go_ret
 exact ⟨Mill.ret_bool HF.out.symm,(Below.refl _ w).alloc (Nat.le_refl _) _⟩
theorem usesRight_16 (o t y:Int) (x:ByteArray) (k:Int) (b:Nat) (w:World) :
  Calls Tryz.prog 72 #[Mill.ndV ⟨16,o,t,y,x,k⟩,.map (some b)] w fun e w'=>e = .returned (.bool (Mill.useR ⟨16,o,t,y,x,k⟩))∧Below w.heap.size w w':=by
 have HF:Hid (Mill.useR ⟨16,o,t,y,x,k⟩=true):=by rw [Hid];simp [Mill.useR]
 simp only [Mill.ndV]
 go_enter Tryz.func72,Tryz.ntmps72
 go_wp2
 go_ret
 exact ⟨Mill.ret_bool HF.out.symm,(Below.refl _ w).alloc (Nat.le_refl _) _⟩
theorem usesRight_17 (o t y:Int) (x:ByteArray) (k:Int) (b:Nat) (w:World) :
  Calls Tryz.prog 72 #[Mill.ndV ⟨17,o,t,y,x,k⟩,.map (some b)] w fun e w'=>e = .returned (.bool (Mill.useR ⟨17,o,t,y,x,k⟩))∧Below w.heap.size w w':=by
 have HF:Hid (Mill.useR ⟨17,o,t,y,x,k⟩=true):=by rw [Hid];simp [Mill.useR]
 simp only [Mill.ndV]
 go_enter Tryz.func72,Tryz.ntmps72
 go_wp2
 go_ret
 exact ⟨Mill.ret_bool HF.out.symm,(Below.refl _ w).alloc (Nat.le_refl _) _⟩
theorem usesRight_18 (o t y:Int) (x:ByteArray) (k:Int) (b:Nat) (w:World) :
  Calls Tryz.prog 72 #[Mill.ndV ⟨18,o,t,y,x,k⟩,.map (some b)] w fun e w'=>e = .returned (.bool (Mill.useR ⟨18,o,t,y,x,k⟩))∧Below w.heap.size w w':=by
 have HF:Hid (Mill.useR ⟨18,o,t,y,x,k⟩=true):=by rw [Hid];simp [Mill.useR]
 simp only [Mill.ndV]
 go_enter Tryz.func72,Tryz.ntmps72
 go_wp2
 go_ret
 exact ⟨Mill.ret_bool HF.out.symm,(Below.refl _ w).alloc (Nat.le_refl _) _⟩
theorem usesRight_19 (o t y:Int) (x:ByteArray) (k:Int) (b:Nat) (w:World) :
  Calls Tryz.prog 72 #[Mill.ndV ⟨19,o,t,y,x,k⟩,.map (some b)] w fun e w'=>e = .returned (.bool (Mill.useR ⟨19,o,t,y,x,k⟩))∧Below w.heap.size w w':=by
 have HF:Hid (Mill.useR ⟨19,o,t,y,x,k⟩=true):=by rw [Hid];simp [Mill.useR]
 simp only [Mill.ndV]
 go_enter Tryz.func72,Tryz.ntmps72
 go_wp2
 go_ret
 exact ⟨Mill.ret_bool HF.out.symm,(Below.refl _ w).alloc (Nat.le_refl _) _⟩
theorem usesRight_20 (o t y:Int) (x:ByteArray) (k:Int) (b:Nat) (w:World) :
  Calls Tryz.prog 72 #[Mill.ndV ⟨20,o,t,y,x,k⟩,.map (some b)] w fun e w'=>e = .returned (.bool (Mill.useR ⟨20,o,t,y,x,k⟩))∧Below w.heap.size w w':=by
 have HF:Hid (Mill.useR ⟨20,o,t,y,x,k⟩=true):=by rw [Hid];simp [Mill.useR]
 simp only [Mill.ndV]
 go_enter Tryz.func72,Tryz.ntmps72
 go_wp2
 go_ret
 exact ⟨Mill.ret_bool HF.out.symm,(Below.refl _ w).alloc (Nat.le_refl _) _⟩
theorem usesRight_21 (o t y:Int) (x:ByteArray) (k:Int) (b:Nat) (w:World) :
  Calls Tryz.prog 72 #[Mill.ndV ⟨21,o,t,y,x,k⟩,.map (some b)] w fun e w'=>e = .returned (.bool (Mill.useR ⟨21,o,t,y,x,k⟩))∧Below w.heap.size w w':=by
 have HF:Hid (Mill.useR ⟨21,o,t,y,x,k⟩=true):=by rw [Hid];simp [Mill.useR]
 simp only [Mill.ndV]
 go_enter Tryz.func72,Tryz.ntmps72
 go_wp2
 go_ret
 exact ⟨Mill.ret_bool HF.out.symm,(Below.refl _ w).alloc (Nat.le_refl _) _⟩
theorem usesRight_24 (o t y:Int) (x:ByteArray) (k:Int) (b:Nat) (w:World) :
  Calls Tryz.prog 72 #[Mill.ndV ⟨24,o,t,y,x,k⟩,.map (some b)] w fun e w'=>e = .returned (.bool (Mill.useR ⟨24,o,t,y,x,k⟩))∧Below w.heap.size w w':=by
 have HF:Hid (Mill.useR ⟨24,o,t,y,x,k⟩=true):=by rw [Hid];simp [Mill.useR]
 simp only [Mill.ndV]
 go_enter Tryz.func72,Tryz.ntmps72
 go_wp2
 go_ret
 exact ⟨Mill.ret_bool HF.out.symm,(Below.refl _ w).alloc (Nat.le_refl _) _⟩
end Go.Proofs.YtlcckaffhnjneaaGreatDoor
namespace Go.Proofs.YtlcckaffhnjneaaGreatDoor
open Go.RowKit Go.Maps Go.WideMaps
theorem isLiteral_is (m:Nat) (hm3:3≤m) (hm:m≤10) (y:Int) (b:Bool) (hb:Hid (decide (IntKind.u64.wrap y≤Mill.maxOf (m:Int))=b)) (w:World) (hcc:w.cell? ⟨0,m,none⟩=some (.int .u64 (Mill.maxOf (m:Int)))) :
  Calls Tryz.prog 100 #[.int .i64 (m:Int),.int .i64 y] w fun e w'=>e = .returned (.bool b)∧w=w':=by
 have h1:(m:Int) < 11:=by omega
 have h0:(0:Int)≤(m:Int):=by omega
 have h1':m < 11:=by omega
 clear hm3 hm
 go_enter Tryz.func100,Tryz.ntmps100
 go_wp2
 go_ret
 exact ⟨Mill.ret_bool hb.out,rfl⟩
theorem usesRight_1 (o t y:Int) (x:ByteArray) (k:Int) (b:Nat) (w:World) (hG:Mill.Greats w) :
  Calls Tryz.prog 72 #[Mill.ndV ⟨1,o,t,y,x,k⟩,.map (some b)] w fun e w'=>e = .returned (.bool (Mill.useR ⟨1,o,t,y,x,k⟩))∧Below w.heap.size w w':=by
 simp only [Mill.ndV]
 obtain ⟨r,HR⟩:∃ r,Hid ((decide (3≤t) && decide (t≤10))=r):=⟨_,(rfl:(decide (3≤t) && decide (t≤10))=_)⟩
 cases r with
 | false =>
  have HF:Hid (Mill.useR ⟨1,o,t,y,x,k⟩=false):=by rw [Hid,Mill.useR];simp only [if_true,HR.out,Bool.false_and]
  go_enter Tryz.func72,Tryz.ntmps72
  go_wp2_with (first | (go_at_call 99;refine (isIntType_is _ false HR _).mono ?_;rintro e _ ⟨rfl,rfl⟩))
  go_ret
  exact ⟨Mill.ret_bool HF.out.symm,(Below.refl _ w).alloc (Nat.le_refl _) _⟩
 | true =>
  have HF:Hid (Mill.useR ⟨1,o,t,y,x,k⟩=decide (IntKind.u64.wrap y≤Mill.maxOf t)):=by rw [Hid,Mill.useR];simp only [if_true,HR.out,Bool.true_and]
  have ht:3≤t∧t≤10:=by have:=HR.out;simpa using this
  obtain ⟨ht1,ht2⟩:=ht
  obtain ⟨m,rfl⟩:∃ m:Nat,t=(m:Int):=⟨t.toNat,by omega⟩
  obtain ⟨hc,hg⟩:=hG
  have hcc:(w.alloc (.cells #[.int .i64 1,.int .i64 o,.int .i64 (m:Int),.int .i64 y,.string x,.int .i64 k] 43)).cell? ⟨0,m,none⟩=some (.int .u64 (Mill.maxOf (m:Int))):=by rw [World.cell?_alloc_past _ _ _ hg];exact hc m (by omega) (by omega)
  have hm:(m:Int) < 11:=by omega
  have hm0:(0:Int)≤(m:Int):=by omega
  have hm':m < 11:=by omega
  clear hc
  go_enter Tryz.func72,Tryz.ntmps72
  go_wp2_with (first | (go_at_call 99;refine (isIntType_is _ true HR _).mono ?_;rintro e _ ⟨rfl,rfl⟩) | (go_at_call 100;refine (isLiteral_is _ (by omega) (by omega) _ _ rfl _ hcc).mono ?_;rintro e _ ⟨rfl,rfl⟩))
  go_ret
  exact ⟨Mill.ret_bool HF.out.symm,(Below.refl _ w).alloc (Nat.le_refl _) _⟩
theorem usesRight_other (c:Int) (hc:c < 1∨24 < c) (o t y:Int) (x:ByteArray) (k:Int) (b:Nat) (w:World) :
  Calls Tryz.prog 72 #[Mill.ndV ⟨c,o,t,y,x,k⟩,.map (some b)] w fun e w'=>e = .returned (.bool (Mill.useR ⟨c,o,t,y,x,k⟩))∧Below w.heap.size w w':=by
 have hn:∀ m:Int,1≤m→m≤24→c≠m:=fun m h1 h2=>by omega
 have HF:Hid (Mill.useR ⟨c,o,t,y,x,k⟩=true):=by rw [Hid];simp [Mill.useR,hn]
 have n1:=hn 1 (by omega) (by omega);have n2:=hn 2 (by omega) (by omega);have n4:=hn 4 (by omega) (by omega);have n5:=hn 5 (by omega) (by omega);have n6:=hn 6 (by omega) (by omega);have n7:=hn 7 (by omega) (by omega);have n8:=hn 8 (by omega) (by omega);have n9:=hn 9 (by omega) (by omega);have n10:=hn 10 (by omega) (by omega);have n11:=hn 11 (by omega) (by omega);have n22:=hn 22 (by omega) (by omega);have n23:=hn 23 (by omega) (by omega)
 clear hn hc
 simp only [Mill.ndV]
 go_enter Tryz.func72,Tryz.ntmps72
 go_wp2
 go_ret
 exact ⟨Mill.ret_bool HF.out.symm,(Below.refl _ w).alloc (Nat.le_refl _) _⟩
theorem usesRight_any (d:Mill.Nd) (b:Nat) (w:World) (hs:d.text.size≤1048576) (hM:Mill.TWords w b) (hG:Mill.Greats w) :
  Calls Tryz.prog 72 #[Mill.ndV d,.map (some b)] w fun e w'=>e = .returned (.bool (Mill.useR d))∧Below w.heap.size w w':=by
 obtain ⟨c,o,t,y,x,k⟩:=d
 rcases Mill.kinds24 c with rfl | rfl | rfl | rfl | rfl | rfl | rfl | rfl | rfl | rfl | rfl | rfl | rfl | rfl | rfl | rfl | rfl | rfl | rfl | rfl | rfl | rfl | rfl | rfl | hc
 ·exact usesRight_1 o t y x k b w hG
 ·exact usesRight_2 o t y x k b w
 ·exact usesRight_3 o t y x k b w
 ·exact usesRight_4 o t y x k b w hs hM
 ·exact usesRight_5 o t y x k b w
 ·exact usesRight_6 o t y x k b w
 ·exact usesRight_7 o t y x k b w hs hM
 ·exact usesRight_8 o t y x k b w
 ·exact usesRight_9 o t y x k b w
 ·exact usesRight_10 o t y x k b w hs hM
 ·exact usesRight_11 o t y x k b w hs hM
 ·exact usesRight_12 o t y x k b w
 ·exact usesRight_13 o t y x k b w
 ·exact usesRight_14 o t y x k b w
 ·exact usesRight_15 o t y x k b w
 ·exact usesRight_16 o t y x k b w
 ·exact usesRight_17 o t y x k b w
 ·exact usesRight_18 o t y x k b w
 ·exact usesRight_19 o t y x k b w
 ·exact usesRight_20 o t y x k b w
 ·exact usesRight_21 o t y x k b w
 ·exact usesRight_22 o t y x k b w hs hM
 ·exact usesRight_23 o t y x k b w hs hM
 ·exact usesRight_24 o t y x k b w
 ·exact usesRight_other c hc o t y x k b w
open Go.RowKit
theorem Mill.fields_eq (d:Mill.Nd) (m:Nat) (h1:1≤d.kind) (h2:d.kind≤24) (hm:d.kids=(m:Int)):Mill.fields d=(Mill.useR d && Mill.ndEq d (Mill.takenN d m)):=by
 obtain ⟨c,o,t,y,x,k⟩:=d
 simp only at h1 h2 hm
 subst hm
 rcases Mill.kind24 c h1 h2 with rfl | rfl | rfl | rfl | rfl | rfl | rfl | rfl | rfl | rfl | rfl | rfl | rfl | rfl | rfl | rfl | rfl | rfl | rfl | rfl | rfl | rfl | rfl | rfl
 all_goals simp only [Mill.fields,Mill.unused,Mill.kindOk,Mill.useR,Mill.ndEq,Mill.takenN,Mill.uOp,Mill.uType,Mill.uN,Mill.uText,Mill.named]
 all_goals generalize Mill.nameOk x=nm
 all_goals rw [Bool.eq_iff_iff]
 all_goals simp
 all_goals grind
end Go.Proofs.YtlcckaffhnjneaaGreatDoor
