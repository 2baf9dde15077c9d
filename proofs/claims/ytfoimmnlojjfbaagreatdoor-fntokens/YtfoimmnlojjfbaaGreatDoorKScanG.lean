import Derived.Test.YtfoimmnlojjfbaaGreatDoorKScanA
import Derived.Deep.QuietTactic
import Derived.BigQuiet
import Derived.Lib.Strings
import Derived.Deep.RegionWith
import Derived.Maps.OwnSet
import Derived.Lib.OthersKept
import Derived.Laws.RangeAny
import Derived.Test.YtfoimmnlojjfbaaGreatDoorKTreeG
set_option maxRecDepth 100000
set_option maxHeartbeats 2000000
namespace Go.Proofs.YtfoimmnlojjfbaaGreatDoor
open Go.RowKit
structure Mill.Piece where
 kind:Int
 text:List UInt8
 type:Int
 n:Int
 size:Nat
 code:Int
def Mill.bad (c:Int):Mill.Piece:=⟨0,[],0,0,0,c⟩
def Mill.ba (l:List UInt8):ByteArray:=⟨l.toArray⟩
def Mill.isTail (c:UInt8):Bool:=Mill.tail (c.toNat:Int)
def Mill.wordOf (l:List UInt8):List UInt8:=l.takeWhile Mill.isTail
def Mill.markAt (l m:List UInt8):Bool:=decide (m.length≤l.length) && (l.take m.length == m)
def Mill.nameP (w:List UInt8):Mill.Piece:=if Mill.taken (Mill.ba w)=true then ⟨2,w,0,0,w.length,0⟩ else if 30 < w.length then Mill.bad 5 else ⟨1,w,0,0,w.length,0⟩
def Mill.intP (w:List UInt8):Mill.Piece:=match Mill.intRead (Mill.ba w) with
 | none=>Mill.bad 3
 | some (t,n)=>⟨3,[],t,wrap64 n,w.length,0⟩
def Mill.textP (l:List UInt8):Mill.Piece:=match Mill.unq l.tail [] with
 | none=>Mill.bad 4
 | some (t,r)=>if 3000 < t.length then Mill.bad 5 else ⟨4,t,0,0,l.length - r.length,0⟩
def Mill.markP (l:List UInt8):Mill.Piece:=match Mill.marks.find? (Mill.markAt l) with
 | some m=>⟨5,m,0,0,m.length,0⟩
 | none=>Mill.bad 2
def Mill.one (l:List UInt8):Mill.Piece:=match l with
 | []=>Mill.bad 2
 | b::_=>if Mill.letter (b.toNat:Int)=true then Mill.nameP (Mill.wordOf l) else if Mill.digit (b.toNat:Int)=true then Mill.intP (Mill.wordOf l) else if b=34 then Mill.textP l else Mill.markP l
def Mill.tokV (p:Mill.Piece) (at':Int):Value:=.agg #[.int .i64 p.kind,.string (Mill.ba p.text),.int .i64 p.type,.int .i64 p.n,.int .i64 at']
def Mill.oneVal (p:Mill.Piece) (at':Nat):Value :=
 if p.code=0 then .tuple #[Mill.tokV p at',.int .i64 ((at':Int)+(p.size:Int)),.int .i64 0] else .tuple #[Mill.tokV (Mill.bad 0) 0,.int .i64 (at':Int),.int .i64 p.code]
def Mill.marksCells : Array Value:=(Mill.marks.map Mill.strOf).toArray
theorem l1Marks_any (w:World) :
  Calls Tryz.prog 26 #[] w fun e w'=>e = .returned (.slice (some ⟨w.heap.size,0,none⟩) 28 28)∧w'=w.alloc (.cells Mill.marksCells 9):=by
 go_enter Tryz.func26,Tryz.ntmps26
 go_wp2
 go_ret
 exact ⟨rfl,rfl⟩
theorem Mill.bcell {W w1:World} (hb:Below W.heap.size W w1):(∀ b o,b < W.heap.size→w1.cell? ⟨b,o,none⟩=W.cell? ⟨b,o,none⟩)∧(∀ b o,b < W.heap.size→w1.frozen? ⟨b,o,none⟩=W.frozen? ⟨b,o,none⟩) :=
 ⟨fun b o h=>hb.cell (p:=⟨b,o,none⟩) h,fun b o h=>hb.frozen (p:=⟨b,o,none⟩) h⟩
theorem Mill.unq_len : ∀ (n:Nat) (l acc t r:List UInt8),l.length≤n→Mill.unq l acc=some (t,r)→r.length < l.length∧t.length≤acc.length+l.length
 | _,[],acc,t,r,_,h=>by simp [Mill.unq] at h
 | 0,c::l,acc,t,r,hn,h=>by simp at hn
 | n+1,c::l,acc,t,r,hn,h=>by
  rw [Mill.unq_def] at h
  by_cases h1:c=34
  ·rw [if_pos h1] at h;simp at h;obtain ⟨rfl,rfl⟩:=h;simp
  ·rw [if_neg h1] at h
   by_cases h2:Mill.isBare c=true
   ·rw [if_pos h2] at h
    have:=Mill.unq_len n l _ t r (by simpa using hn) h
    simp at this ⊢;omega
   ·rw [if_neg h2] at h
    by_cases h3:c=92
    ·rw [if_pos h3] at h
     match l,h,hn with
     | a::b::r2,h,hn =>
      simp only at h
      by_cases h4:0≤Mill.hexOf a∧0≤Mill.hexOf b
      ·rw [if_pos h4] at h
       have:=Mill.unq_len n r2 _ t r (by simp at hn;omega) h
       simp at this ⊢;omega
      ·rw [if_neg h4] at h;simp at h
    ·rw [if_neg h3] at h;simp at h
theorem Mill.below5 {w w1:World} (B:Nat) (hB:B≤w.heap.size) (o:Obj) (hb:Below (w.alloc o).heap.size (w.alloc o) w1) (c0 c1 c2 c3 c4:Value) :
  Below B w (((((w1.setCell ⟨w.heap.size,0,none⟩ c0).setCell ⟨w.heap.size,1,none⟩ c1).setCell ⟨w.heap.size,2,none⟩ c2).setCell ⟨w.heap.size,3,none⟩ c3).setCell ⟨w.heap.size,4,none⟩ c4) :=
 ((((((((Below.refl B w).alloc hB o).trans (hb.mono (by simp;omega))).setCell (p:=⟨w.heap.size,0,none⟩) hB _).setCell (p:=⟨w.heap.size,1,none⟩) hB _).setCell (p:=⟨w.heap.size,2,none⟩) hB _).setCell (p:=⟨w.heap.size,3,none⟩) hB _).setCell (p:=⟨w.heap.size,4,none⟩) hB _)
theorem l1One_quote (s:ByteArray) (at':Nat) (w:World) (hat:at' < s.size) (hs:s.size≤1048576)
  (h1:Mill.letter (s[at'].toNat:Int)=false) (h2:Mill.digit (s[at'].toNat:Int)=false) (h3:((s[at'].toNat:Int) == 34)=true) :
  Calls Tryz.prog 14 #[.string s,.int .i64 (at':Int)] w fun e w'=>e = .returned (Mill.oneVal (Mill.textP (s.data.toList.drop at')) at')∧Below w.heap.size w w':=by
 have hdrop:(s.data.toList.drop at').tail=s.data.toList.drop (at'+1):=by simp
 cases hu:Mill.unq (s.data.toList.drop (at'+1)) [] with
 | none =>
  have HP:Hid (Mill.oneVal (Mill.textP (s.data.toList.drop at')) at' = .tuple #[.agg #[.int .i64 0,.string ⟨#[]⟩,.int .i64 0,.int .i64 0,.int .i64 0],.int .i64 (at':Int),.int .i64 4]):=by rw [Hid,Mill.textP,hdrop,hu];rfl
  have HU:Hid (Mill.unqVal s at' = .tuple #[.string ⟨#[]⟩,.int .i64 (at':Int),.bool false]):=by rw [Hid,Mill.unqVal,hu]
  clear hu hdrop
  go_enter Tryz.func14,Tryz.ntmps14
  go_wp2_with (first
   | (go_at_call 36;refine (l1Letter_any _ _).mono ?_;rintro e w' ⟨rfl,rfl⟩;rw [h1])
   | (go_at_call 37;refine (l1Digit_any _ _).mono ?_;rintro e w' ⟨rfl,rfl⟩;rw [h2])
   | (go_at_call 41;refine (l1Unquote_any s at' _ hat hs).mono ?_;rintro e w1 ⟨rfl,hb⟩;rw [HU.out];obtain ⟨hc,hf⟩:=Mill.bcell hb;have hz:=hb.size;simp at hz))
  refine bodyPost_ret (v:=.tuple #[.agg #[.int .i64 0,.string ⟨#[]⟩,.int .i64 0,.int .i64 0,.int .i64 0],.int .i64 (at':Int),.int .i64 4]) (by simp [results,Tryz.results14,go_sem,hc]) rfl ⟨Mill.ret_val HP.out.symm,Mill.below5 _ (Nat.le_refl _) _ hb _ _ _ _ _⟩
 | some p =>
  obtain ⟨t,r⟩:=p
  have hl:=Mill.unq_len _ _ _ _ _ (Nat.le_refl _) hu
  simp at hl
  have hsr:s.size - r.length=at'+(s.size - at' - r.length):=by omega
  have HU:Hid (Mill.unqVal s at' = .tuple #[.string ⟨t.toArray⟩,.int .i64 ((s.size - r.length:Nat):Int),.bool true]):=by rw [Hid,Mill.unqVal,hu]
  have hts:(⟨t.toArray⟩:ByteArray).size=t.length:=rfl
  by_cases h30:3000 < t.length
  ·have HP:Hid (Mill.oneVal (Mill.textP (s.data.toList.drop at')) at' = .tuple #[.agg #[.int .i64 0,.string ⟨#[]⟩,.int .i64 0,.int .i64 0,.int .i64 0],.int .i64 (at':Int),.int .i64 5]):=by rw [Hid,Mill.textP,hdrop,hu];simp only [if_pos h30];rfl
   clear hu hdrop hsr
   generalize hT:(⟨t.toArray⟩:ByteArray)=T at *
   have h30':(3000:Int) < (T.size:Int):=by omega
   clear hT hts
   go_enter Tryz.func14,Tryz.ntmps14
   go_wp2_with (first
    | (go_at_call 36;refine (l1Letter_any _ _).mono ?_;rintro e w' ⟨rfl,rfl⟩;rw [h1])
    | (go_at_call 37;refine (l1Digit_any _ _).mono ?_;rintro e w' ⟨rfl,rfl⟩;rw [h2])
    | (go_at_call 41;refine (l1Unquote_any s at' _ hat hs).mono ?_;rintro e w1 ⟨rfl,hb⟩;rw [HU.out];obtain ⟨hc,hf⟩:=Mill.bcell hb;have hz:=hb.size;simp at hz))
   refine bodyPost_ret (v:=.tuple #[.agg #[.int .i64 0,.string ⟨#[]⟩,.int .i64 0,.int .i64 0,.int .i64 0],.int .i64 (at':Int),.int .i64 5]) (by simp [results,Tryz.results14,go_sem,hc]) rfl ⟨Mill.ret_val HP.out.symm,Mill.below5 _ (Nat.le_refl _) _ hb _ _ _ _ _⟩
  ·have HP:Hid (Mill.oneVal (Mill.textP (s.data.toList.drop at')) at' = .tuple #[.agg #[.int .i64 4,.string ⟨t.toArray⟩,.int .i64 0,.int .i64 0,.int .i64 (at':Int)],.int .i64 ((s.size - r.length:Nat):Int),.int .i64 0]):=by
    rw [Hid,Mill.textP,hdrop,hu,hsr];simp only [if_neg h30,Mill.oneVal,if_true,Mill.tokV,Mill.ba];simp
   clear hu hdrop hsr
   generalize hT:(⟨t.toArray⟩:ByteArray)=T at *
   have h30':(T.size:Int)≤(3000:Int):=by omega
   generalize ((s.size - r.length:Nat):Int)=E at *
   clear hT hts
   go_enter Tryz.func14,Tryz.ntmps14
   go_wp2_with (first
    | (go_at_call 36;refine (l1Letter_any _ _).mono ?_;rintro e w' ⟨rfl,rfl⟩;rw [h1])
    | (go_at_call 37;refine (l1Digit_any _ _).mono ?_;rintro e w' ⟨rfl,rfl⟩;rw [h2])
    | (go_at_call 41;refine (l1Unquote_any s at' _ hat hs).mono ?_;rintro e w1 ⟨rfl,hb⟩;rw [HU.out];obtain ⟨hc,hf⟩:=Mill.bcell hb;have hz:=hb.size;simp at hz))
   refine bodyPost_ret (v:=.tuple #[.agg #[.int .i64 4,.string T,.int .i64 0,.int .i64 0,.int .i64 (at':Int)],.int .i64 E,.int .i64 0]) (by simp [results,Tryz.results14,go_sem,hc]) rfl ⟨Mill.ret_val HP.out.symm,Mill.below5 _ (Nat.le_refl _) _ hb _ _ _ _ _⟩
def Mill.wlen (s:ByteArray) (a:Nat):Nat:=(Mill.wordOf (s.data.toList.drop a)).length
theorem Mill.wlen_le (s:ByteArray) (a:Nat):Mill.wlen s a≤s.size - a:=by
 have:=Mill.tw_le Mill.isTail (s.data.toList.drop a);simpa [Mill.wlen,Mill.wordOf] using this
theorem Mill.tail_step (s:ByteArray) (a k:Nat) (h:k < s.size) (ha:a≤k) (hk:k - a≤Mill.wlen s a) (ht:Mill.tail (s[k].toNat:Int)=true):k+1 - a≤Mill.wlen s a:=by
 have:=Mill.tw_step Mill.isTail (s.data.toList.drop a) (k - a) (by simp;omega) hk (by
  rw [List.getElem_drop]
  have e:a+(k - a)=k:=by omega
  simp only [e];exact ht)
 have e:k+1 - a=k - a+1:=by omega
 rw [e];exact this
theorem Mill.tail_stop (s:ByteArray) (a k:Nat) (ha:a≤k) (hk:k - a≤Mill.wlen s a) (ht:∀ h:k < s.size,Mill.tail (s[k].toNat:Int)=false):k - a=Mill.wlen s a :=
 Mill.tw_stop Mill.isTail (s.data.toList.drop a) (k - a) hk (fun h=>by
  rw [List.getElem_drop]
  have e:a+(k - a)=k:=by omega
  have hk:k < s.size:=by simp at h;omega
  simp only [e];exact ht hk)
theorem Mill.takeWhile_take {α:Type} (p:α→Bool):∀ l:List α,l.take (l.takeWhile p).length=l.takeWhile p
 | []=>rfl
 | a::r=>by
  cases h:p a with
  | false=>simp [h]
  | true=>simp [h,Mill.takeWhile_take p r]
theorem Mill.extract_ba (s:ByteArray) (a k:Nat):s.extract a k=Mill.ba ((s.data.toList.drop a).take (k - a)):=by
 have h:=Lib.extract_data s a k
 exact WideShapes.bytes_inj h
theorem Mill.word_ba (s:ByteArray) (a k:Nat) (hk:k - a=Mill.wlen s a):s.extract a k=Mill.ba (Mill.wordOf (s.data.toList.drop a)):=by
 rw [Mill.extract_ba,hk,Mill.wlen,Mill.wordOf,Mill.takeWhile_take]
theorem Mill.ba_size (l:List UInt8):(Mill.ba l).size=l.length:=rfl
/- CASES -/
theorem l1One_letter (s:ByteArray) (at':Nat) (w:World) (hat:at' < s.size) (hs:s.size≤1048576)
  (h1:Mill.letter (s[at'].toNat:Int)=true) :
  Calls Tryz.prog 14 #[.string s,.int .i64 (at':Int)] w fun e w'=>e = .returned (Mill.oneVal (Mill.nameP (Mill.wordOf (s.data.toList.drop at'))) at')∧Below w.heap.size w w':=by
 go_enter Tryz.func14,Tryz.ntmps14
 go_wp2_with (first | (go_at_call 36;refine (l1Letter_any _ _).mono ?_;rintro e w' ⟨rfl,rfl⟩;rw [h1]))
 go_loop [8] (fun t => ∃ k:Nat,at'≤k∧k≤s.size∧k - at'≤Mill.wlen s at'∧t = .int .i64 (k:Int)) (fun t=>s.size - (intOf t).toNat)
 case atStart=>exact ⟨at',by omega,by omega,by omega,rfl⟩
 case round =>
  obtain ⟨k,hk0,hks,hkw,rfl⟩:=hrel
  by_cases hgo:∃ h:k < s.size,Mill.tail (s[k].toNat:Int)=true
  ·obtain ⟨hlt,ht⟩:=hgo
   have hk1:=Mill.tail_step s at' k hlt hk0 hkw ht
   go_wp2_with (go_at_call 38;refine (l1Tail_any _ _).mono ?_;rintro e w' ⟨rfl,rfl⟩;rw [ht])
   go_round
   case rel=>exact ⟨k+1,by omega,by omega,hk1,by go_num⟩
   case measure=>simp [intOf];omega
  ·have hnt:∀ h:k < s.size,Mill.tail (s[k].toNat:Int)=false:=fun h=>by
    cases hc:Mill.tail (s[k].toNat:Int) with
    | true=>exact absurd ⟨h,hc⟩ hgo
    | false=>rfl
   have hkl:=Mill.tail_stop s at' k hk0 hkw hnt
   have HW:Hid (s.extract at' k=Mill.ba (Mill.wordOf (s.data.toList.drop at'))):=Mill.word_ba s at' k hkl
   have hwl:(Mill.wordOf (s.data.toList.drop at')).length=k - at':=hkl.symm
   clear hkl hgo hkw
   obtain ⟨W,HE⟩:∃ W,Hid (Mill.wordOf (s.data.toList.drop at')=W):=⟨_,rfl⟩
   rw [HE.out] at HW hwl
   have hsz:(Mill.ba W).size=k - at':=hwl
   have hba:Mill.ba W=⟨W.toArray⟩:=rfl
   cases htk:Mill.taken (Mill.ba W) with
   | true =>
    have HP:Hid (Mill.oneVal (Mill.nameP (Mill.wordOf (s.data.toList.drop at'))) at' = .tuple #[.agg #[.int .i64 2,.string (Mill.ba W),.int .i64 0,.int .i64 0,.int .i64 (at':Int)],.int .i64 (k:Int),.int .i64 0]):=by
     rw [Hid,HE.out,Mill.nameP,if_pos htk];simp only [Mill.oneVal,if_true,Mill.tokV];rw [hwl,show (at':Int)+((k - at':Nat):Int)=(k:Int) by omega]
    clear hwl hba
    generalize Mill.ba W=B at *
    clear hsz
    by_cases hlt:k < s.size
    ·have ht:=hnt hlt
     clear hnt
     go_wp2_with (first | (go_at_call 36;refine (l1Letter_any _ _).mono ?_;rintro e w' ⟨rfl,rfl⟩;rw [h1]) | (go_at_call 38;refine (l1Tail_any _ _).mono ?_;rintro e w' ⟨rfl,rfl⟩;rw [ht]) | (go_at_call 39;rw [HW.out];refine (l1Taken_any _ _).mono ?_;rintro e w1 ⟨rfl,hb⟩;rw [htk];obtain ⟨hc,hf⟩:=Mill.bcell hb;have hz:=hb.size;simp at hz))
     refine bodyPost_ret (v:=.tuple #[.agg #[.int .i64 2,.string B,.int .i64 0,.int .i64 0,.int .i64 (at':Int)],.int .i64 (k:Int),.int .i64 0]) (by simp [results,Tryz.results14,go_sem,hc]) rfl ⟨Mill.ret_val HP.out.symm,Mill.below5 _ (Nat.le_refl _) _ hb _ _ _ _ _⟩
    
    ·clear hnt
     go_wp2_with (first | (go_at_call 36;refine (l1Letter_any _ _).mono ?_;rintro e w' ⟨rfl,rfl⟩;rw [h1]) | (go_at_call 38;refine (l1Tail_any _ _).mono ?_;rintro e w' ⟨rfl,rfl⟩;rw [ht]) | (go_at_call 39;rw [HW.out];refine (l1Taken_any _ _).mono ?_;rintro e w1 ⟨rfl,hb⟩;rw [htk];obtain ⟨hc,hf⟩:=Mill.bcell hb;have hz:=hb.size;simp at hz))
     refine bodyPost_ret (v:=.tuple #[.agg #[.int .i64 2,.string B,.int .i64 0,.int .i64 0,.int .i64 (at':Int)],.int .i64 (k:Int),.int .i64 0]) (by simp [results,Tryz.results14,go_sem,hc]) rfl ⟨Mill.ret_val HP.out.symm,Mill.below5 _ (Nat.le_refl _) _ hb _ _ _ _ _⟩
   
   | false =>
    by_cases h30:30 < k - at'
    ·have HP:Hid (Mill.oneVal (Mill.nameP (Mill.wordOf (s.data.toList.drop at'))) at' = .tuple #[.agg #[.int .i64 0,.string ⟨#[]⟩,.int .i64 0,.int .i64 0,.int .i64 0],.int .i64 (at':Int),.int .i64 5]):=by
      rw [Hid,HE.out,Mill.nameP,if_neg (by simp [htk]),if_pos (by omega)];rfl
     have h30':(30:Int) < ((Mill.ba W).size:Int):=by omega
     clear hwl hba
     generalize Mill.ba W=B at *
     clear hsz
     by_cases hlt:k < s.size
     ·have ht:=hnt hlt
      clear hnt
      go_wp2_with (first | (go_at_call 36;refine (l1Letter_any _ _).mono ?_;rintro e w' ⟨rfl,rfl⟩;rw [h1]) | (go_at_call 38;refine (l1Tail_any _ _).mono ?_;rintro e w' ⟨rfl,rfl⟩;rw [ht]) | (go_at_call 39;rw [HW.out];refine (l1Taken_any _ _).mono ?_;rintro e w1 ⟨rfl,hb⟩;rw [htk];obtain ⟨hc,hf⟩:=Mill.bcell hb;have hz:=hb.size;simp at hz))
      refine bodyPost_ret (v:=.tuple #[.agg #[.int .i64 0,.string ⟨#[]⟩,.int .i64 0,.int .i64 0,.int .i64 0],.int .i64 (at':Int),.int .i64 5]) (by simp [results,Tryz.results14,go_sem,hc]) rfl ⟨Mill.ret_val HP.out.symm,Mill.below5 _ (Nat.le_refl _) _ hb _ _ _ _ _⟩
     
     ·clear hnt
      go_wp2_with (first | (go_at_call 36;refine (l1Letter_any _ _).mono ?_;rintro e w' ⟨rfl,rfl⟩;rw [h1]) | (go_at_call 38;refine (l1Tail_any _ _).mono ?_;rintro e w' ⟨rfl,rfl⟩;rw [ht]) | (go_at_call 39;rw [HW.out];refine (l1Taken_any _ _).mono ?_;rintro e w1 ⟨rfl,hb⟩;rw [htk];obtain ⟨hc,hf⟩:=Mill.bcell hb;have hz:=hb.size;simp at hz))
      refine bodyPost_ret (v:=.tuple #[.agg #[.int .i64 0,.string ⟨#[]⟩,.int .i64 0,.int .i64 0,.int .i64 0],.int .i64 (at':Int),.int .i64 5]) (by simp [results,Tryz.results14,go_sem,hc]) rfl ⟨Mill.ret_val HP.out.symm,Mill.below5 _ (Nat.le_refl _) _ hb _ _ _ _ _⟩
   
    ·have HP:Hid (Mill.oneVal (Mill.nameP (Mill.wordOf (s.data.toList.drop at'))) at' = .tuple #[.agg #[.int .i64 1,.string (Mill.ba W),.int .i64 0,.int .i64 0,.int .i64 (at':Int)],.int .i64 (k:Int),.int .i64 0]):=by
      rw [Hid,HE.out,Mill.nameP,if_neg (by simp [htk]),if_neg (by omega)];simp only [Mill.oneVal,if_true,Mill.tokV];rw [hwl,show (at':Int)+((k - at':Nat):Int)=(k:Int) by omega]
     have h30':((Mill.ba W).size:Int)≤(30:Int):=by omega
     clear hwl hba
     generalize Mill.ba W=B at *
     clear hsz
     by_cases hlt:k < s.size
     ·have ht:=hnt hlt
      clear hnt
      go_wp2_with (first | (go_at_call 36;refine (l1Letter_any _ _).mono ?_;rintro e w' ⟨rfl,rfl⟩;rw [h1]) | (go_at_call 38;refine (l1Tail_any _ _).mono ?_;rintro e w' ⟨rfl,rfl⟩;rw [ht]) | (go_at_call 39;rw [HW.out];refine (l1Taken_any _ _).mono ?_;rintro e w1 ⟨rfl,hb⟩;rw [htk];obtain ⟨hc,hf⟩:=Mill.bcell hb;have hz:=hb.size;simp at hz))
      refine bodyPost_ret (v:=.tuple #[.agg #[.int .i64 1,.string B,.int .i64 0,.int .i64 0,.int .i64 (at':Int)],.int .i64 (k:Int),.int .i64 0]) (by simp [results,Tryz.results14,go_sem,hc]) rfl ⟨Mill.ret_val HP.out.symm,Mill.below5 _ (Nat.le_refl _) _ hb _ _ _ _ _⟩
     
     ·clear hnt
      go_wp2_with (first | (go_at_call 36;refine (l1Letter_any _ _).mono ?_;rintro e w' ⟨rfl,rfl⟩;rw [h1]) | (go_at_call 38;refine (l1Tail_any _ _).mono ?_;rintro e w' ⟨rfl,rfl⟩;rw [ht]) | (go_at_call 39;rw [HW.out];refine (l1Taken_any _ _).mono ?_;rintro e w1 ⟨rfl,hb⟩;rw [htk];obtain ⟨hc,hf⟩:=Mill.bcell hb;have hz:=hb.size;simp at hz))
      refine bodyPost_ret (v:=.tuple #[.agg #[.int .i64 1,.string B,.int .i64 0,.int .i64 0,.int .i64 (at':Int)],.int .i64 (k:Int),.int .i64 0]) (by simp [results,Tryz.results14,go_sem,hc]) rfl ⟨Mill.ret_val HP.out.symm,Mill.below5 _ (Nat.le_refl _) _ hb _ _ _ _ _⟩
theorem l1One_digit (s:ByteArray) (at':Nat) (w:World) (hat:at' < s.size) (hs:s.size≤1048576)
  (h1:Mill.letter (s[at'].toNat:Int)=false) (h2:Mill.digit (s[at'].toNat:Int)=true) :
  Calls Tryz.prog 14 #[.string s,.int .i64 (at':Int)] w fun e w'=>e = .returned (Mill.oneVal (Mill.intP (Mill.wordOf (s.data.toList.drop at'))) at')∧Below w.heap.size w w':=by
 go_enter Tryz.func14,Tryz.ntmps14
 go_wp2_with (first | (go_at_call 36;refine (l1Letter_any _ _).mono ?_;rintro e w' ⟨rfl,rfl⟩;rw [h1]) | (go_at_call 37;refine (l1Digit_any _ _).mono ?_;rintro e w' ⟨rfl,rfl⟩;rw [h2]))
 go_loop [8] (fun t => ∃ k:Nat,at'≤k∧k≤s.size∧k - at'≤Mill.wlen s at'∧t = .int .i64 (k:Int)) (fun t=>s.size - (intOf t).toNat)
 case atStart=>exact ⟨at',by omega,by omega,by omega,rfl⟩
 case round =>
  obtain ⟨k,hk0,hks,hkw,rfl⟩:=hrel
  by_cases hgo:∃ h:k < s.size,Mill.tail (s[k].toNat:Int)=true
  ·obtain ⟨hlt,ht⟩:=hgo
   have hk1:=Mill.tail_step s at' k hlt hk0 hkw ht
   go_wp2_with (go_at_call 38;refine (l1Tail_any _ _).mono ?_;rintro e w' ⟨rfl,rfl⟩;rw [ht])
   go_round
   case rel=>exact ⟨k+1,by omega,by omega,hk1,by go_num⟩
   case measure=>simp [intOf];omega
  ·have hnt:∀ h:k < s.size,Mill.tail (s[k].toNat:Int)=false:=fun h=>by
    cases hc:Mill.tail (s[k].toNat:Int) with
    | true=>exact absurd ⟨h,hc⟩ hgo
    | false=>rfl
   have hkl:=Mill.tail_stop s at' k hk0 hkw hnt
   have HW:Hid (s.extract at' k=Mill.ba (Mill.wordOf (s.data.toList.drop at'))):=Mill.word_ba s at' k hkl
   have hwl:(Mill.wordOf (s.data.toList.drop at')).length=k - at':=hkl.symm
   clear hkl hgo hkw
   obtain ⟨W,HE⟩:∃ W,Hid (Mill.wordOf (s.data.toList.drop at')=W):=⟨_,rfl⟩
   rw [HE.out] at HW hwl
   have hsz:(Mill.ba W).size=k - at':=hwl
   have hba:Mill.ba W=⟨W.toArray⟩:=rfl
   have hmx:(Mill.ba W).size≤maxLen:=by unfold maxLen;omega
   have HI0:Hid (∃ o,Mill.intRead (Mill.ba W)=o∧Mill.intP W=(match o with | none=>Mill.bad 3 | some (t,n)=>⟨3,[],t,wrap64 n,W.length,0⟩)):=⟨_,rfl,rfl⟩
   obtain ⟨o,hio,hip⟩:=HI0.out
   clear HI0 hba
   cases o with
   | none =>
    have HP:Hid (Mill.oneVal (Mill.intP (Mill.wordOf (s.data.toList.drop at'))) at' = .tuple #[.agg #[.int .i64 0,.string ⟨#[]⟩,.int .i64 0,.int .i64 0,.int .i64 0],.int .i64 (at':Int),.int .i64 3]):=by rw [Hid,HE.out,hip];rfl
    have HI:Hid (Mill.intVal (Mill.intRead (Mill.ba W)) = .tuple #[.int .i64 0,.int .i64 0,.bool false]):=by rw [Hid,hio];rfl
    clear hio hip hwl
    generalize Mill.ba W=B at *
    clear hsz
    by_cases hlt:k < s.size
    ·have ht:=hnt hlt
     clear hnt
     go_wp2_with (first | (go_at_call 36;refine (l1Letter_any _ _).mono ?_;rintro e w' ⟨rfl,rfl⟩;rw [h1]) | (go_at_call 37;refine (l1Digit_any _ _).mono ?_;rintro e w' ⟨rfl,rfl⟩;rw [h2]) | (go_at_call 38;refine (l1Tail_any _ _).mono ?_;rintro e w' ⟨rfl,rfl⟩;rw [ht]) | (go_at_call 40;rw [HW.out];refine (l1Int_any _ _ hmx).mono ?_;rintro e w1 ⟨rfl,rfl⟩;rw [HI.out]))
     refine bodyPost_ret (v:=.tuple #[.agg #[.int .i64 0,.string ⟨#[]⟩,.int .i64 0,.int .i64 0,.int .i64 0],.int .i64 (at':Int),.int .i64 3]) (by simp [results,Tryz.results14,go_sem]) rfl ⟨Mill.ret_val HP.out.symm,((Below.refl _ w).alloc (Nat.le_refl _) _)⟩
    
    ·clear hnt
     go_wp2_with (first | (go_at_call 36;refine (l1Letter_any _ _).mono ?_;rintro e w' ⟨rfl,rfl⟩;rw [h1]) | (go_at_call 37;refine (l1Digit_any _ _).mono ?_;rintro e w' ⟨rfl,rfl⟩;rw [h2]) | (go_at_call 38;refine (l1Tail_any _ _).mono ?_;rintro e w' ⟨rfl,rfl⟩;rw [ht]) | (go_at_call 40;rw [HW.out];refine (l1Int_any _ _ hmx).mono ?_;rintro e w1 ⟨rfl,rfl⟩;rw [HI.out]))
     refine bodyPost_ret (v:=.tuple #[.agg #[.int .i64 0,.string ⟨#[]⟩,.int .i64 0,.int .i64 0,.int .i64 0],.int .i64 (at':Int),.int .i64 3]) (by simp [results,Tryz.results14,go_sem]) rfl ⟨Mill.ret_val HP.out.symm,((Below.refl _ w).alloc (Nat.le_refl _) _)⟩
   
   | some p =>
    obtain ⟨t,n⟩:=p
    have HP:Hid (Mill.oneVal (Mill.intP (Mill.wordOf (s.data.toList.drop at'))) at' = .tuple #[.agg #[.int .i64 3,.string ⟨#[]⟩,.int .i64 t,.int .i64 (wrap64 n),.int .i64 (at':Int)],.int .i64 (k:Int),.int .i64 0]):=by
     rw [Hid,HE.out,hip];simp only [Mill.oneVal,if_true,Mill.tokV];rw [hwl,show (at':Int)+((k - at':Nat):Int)=(k:Int) by omega];rfl
    have HI:Hid (Mill.intVal (Mill.intRead (Mill.ba W)) = .tuple #[.int .i64 t,.int .i64 (wrap64 n),.bool true]):=by rw [Hid,hio];rfl
    clear hio hip hwl
    generalize Mill.ba W=B at *
    generalize wrap64 n=m at *
    clear hsz
    by_cases hlt:k < s.size
    ·have ht:=hnt hlt
     clear hnt
     go_wp2_with (first | (go_at_call 36;refine (l1Letter_any _ _).mono ?_;rintro e w' ⟨rfl,rfl⟩;rw [h1]) | (go_at_call 37;refine (l1Digit_any _ _).mono ?_;rintro e w' ⟨rfl,rfl⟩;rw [h2]) | (go_at_call 38;refine (l1Tail_any _ _).mono ?_;rintro e w' ⟨rfl,rfl⟩;rw [ht]) | (go_at_call 40;rw [HW.out];refine (l1Int_any _ _ hmx).mono ?_;rintro e w1 ⟨rfl,rfl⟩;rw [HI.out]))
     refine bodyPost_ret (v:=.tuple #[.agg #[.int .i64 3,.string ⟨#[]⟩,.int .i64 t,.int .i64 m,.int .i64 (at':Int)],.int .i64 (k:Int),.int .i64 0]) (by simp [results,Tryz.results14,go_sem]) rfl ⟨Mill.ret_val HP.out.symm,((Below.refl _ w).alloc (Nat.le_refl _) _)⟩
    
    ·clear hnt
     go_wp2_with (first | (go_at_call 36;refine (l1Letter_any _ _).mono ?_;rintro e w' ⟨rfl,rfl⟩;rw [h1]) | (go_at_call 37;refine (l1Digit_any _ _).mono ?_;rintro e w' ⟨rfl,rfl⟩;rw [h2]) | (go_at_call 38;refine (l1Tail_any _ _).mono ?_;rintro e w' ⟨rfl,rfl⟩;rw [ht]) | (go_at_call 40;rw [HW.out];refine (l1Int_any _ _ hmx).mono ?_;rintro e w1 ⟨rfl,rfl⟩;rw [HI.out]))
     refine bodyPost_ret (v:=.tuple #[.agg #[.int .i64 3,.string ⟨#[]⟩,.int .i64 t,.int .i64 m,.int .i64 (at':Int)],.int .i64 (k:Int),.int .i64 0]) (by simp [results,Tryz.results14,go_sem]) rfl ⟨Mill.ret_val HP.out.symm,((Below.refl _ w).alloc (Nat.le_refl _) _)⟩
theorem Mill.marks_cell (w:World) (k:Nat) (p:List UInt8) (h:Mill.marks[k]? = some p):(w.alloc (.cells Mill.marksCells 9)).cell? ⟨w.heap.size,k,none⟩=some (Mill.strOf p):=by
 rw [cell_of_row _ _ _ Mill.marksCells 9 (0,0) (heap_alloc_new w _)]
 simp [Mill.marksCells,h]
theorem Mill.mark_no (s:ByteArray) (at':Nat) (m:List UInt8) (hat:at' < s.size) (h:¬ at'+m.length≤s.size):Mill.markAt (s.data.toList.drop at') m=false:=by
 simp [Mill.markAt];intro h2;omega
theorem Mill.mark_eq (s:ByteArray) (at':Nat) (m:List UInt8) (h:at'+m.length≤s.size):Mill.markAt (s.data.toList.drop at') m=((s.extract at' (at'+m.length)).toList == m):=by
 rw [ByteArray.toList_eq,Lib.extract_data,show at'+m.length - at'=m.length by omega]
 simp [Mill.markAt];omega
theorem Mill.mark_len (k:Nat) (m:List UInt8) (h:Mill.marks[k]? = some m):m.length≤2:=by
 have hm:=List.mem_of_getElem? h
 have:∀ x ∈ Mill.marks,x.length≤2:=by decide
 exact this m hm
theorem l1One_mark (s:ByteArray) (at':Nat) (w:World) (hat:at' < s.size) (hs:s.size≤1048576)
  (h1:Mill.letter (s[at'].toNat:Int)=false) (h2:Mill.digit (s[at'].toNat:Int)=false) (h3:((s[at'].toNat:Int) == 34)=false) :
  Calls Tryz.prog 14 #[.string s,.int .i64 (at':Int)] w fun e w'=>e = .returned (Mill.oneVal (Mill.markP (s.data.toList.drop at')) at')∧Below w.heap.size w w':=by
 go_enter Tryz.func14,Tryz.ntmps14
 go_wp2_with (first
  | (go_at_call 36;refine (l1Letter_any _ _).mono ?_;rintro e w' ⟨rfl,rfl⟩;rw [h1])
  | (go_at_call 37;refine (l1Digit_any _ _).mono ?_;rintro e w' ⟨rfl,rfl⟩;rw [h2])
  | (go_at_call 26;refine (l1Marks_any _).mono ?_;rintro e w' ⟨rfl,rfl⟩))
 have hcell:=fun k p=>Mill.marks_cell (w.alloc (.cells #[.int .i64 0,.string ByteArray.empty,.int .i64 0,.int .i64 0,.int .i64 0] 30)) k p
 simp only [World.size_alloc] at hcell
 go_loopw [17,18] (fun t _ wr => ∃ k nq:Nat,k≤28∧t = .int .i64 (k:Int)∧(Mill.marks.drop k).find? (Mill.markAt (s.data.toList.drop at'))=Mill.marks.find? (Mill.markAt (s.data.toList.drop at'))∧wr=(((w.alloc (.cells #[.int .i64 0,.string ByteArray.empty,.int .i64 0,.int .i64 0,.int .i64 0] 30)).alloc (.cells Mill.marksCells 9)).drewN nq)) (fun t _ _=>28 - (intOf t).toNat)
 case atStart=>exact ⟨0,0,by omega,rfl,rfl,rfl⟩
 case round =>
  obtain ⟨k,nq,hk,rfl,hf,rfl⟩:=hrel
  by_cases hlt:k < 28
  ·have hlt2:k < Mill.marks.length:=hlt
   have hp:Mill.marks[k]? = some Mill.marks[k]:=List.getElem?_eq_getElem hlt2
   have hd:Mill.marks.drop k=Mill.marks[k]::Mill.marks.drop (k+1):=List.drop_eq_getElem_cons hlt2
   generalize Mill.marks[k]=m at *
   have hcl:=hcell k m hp
   clear hcell
   rw [hd,List.find?_cons] at hf
   obtain ⟨M,hM⟩:∃ M:ByteArray,M=⟨m.toArray⟩:=⟨_,rfl⟩
   have hMl:M.toList=m:=by rw [hM,ByteArray.toList_eq]
   have hMs:M.size=m.length:=by rw [hM];rfl
   have hml:m.length≤2:=Mill.mark_len k m hp
   rw [Mill.strOf,← hM] at hcl
   by_cases hin:at'+m.length≤s.size
   ·have hg:decide ((at':Int)+(m.length:Int)≤(s.size:Int))=true:=by simp;omega
    have hg2:(at':Int)+(m.length:Int)≤(s.size:Int):=by omega
    have hg3:(at':Int)≤(at':Int)+(m.length:Int):=by omega
    have hw:IntKind.i64.wrap ((at':Int)+(m.length:Int))=(at':Int)+(m.length:Int):=wrap_small _ (by omega) (by omega)
    have hn:((at':Int)+(m.length:Int)).toNat=at'+m.length:=by omega
    have hme:=Mill.mark_eq s at' m hin
    rw [← hMl,hMl] at hme
    cases hb:((s.extract at' (at'+m.length)).toList == M.toList) with
    | true =>
     have HP:Hid (Mill.oneVal (Mill.markP (s.data.toList.drop at')) at' = .tuple #[.agg #[.int .i64 5,.string M,.int .i64 0,.int .i64 0,.int .i64 (at':Int)],.int .i64 ((at':Int)+(m.length:Int)),.int .i64 0]):=by
      rw [hMl] at hb
      rw [hme,hb] at hf
      rw [Hid,Mill.markP,← hf,hM];rfl
     clear hf hd hMl hM hp hme
     go_wp2_with fail
     go_quiet (fail)
     go_wp2
     refine bodyPost_ret (v:=.tuple #[.agg #[.int .i64 5,.string M,.int .i64 0,.int .i64 0,.int .i64 (at':Int)],.int .i64 ((at':Int)+(m.length:Int)),.int .i64 0]) (by simp [results,Tryz.results14,go_sem]) rfl ⟨Mill.ret_val HP.out.symm,Mill.below5 _ (Nat.le_refl _) _ (below_drewN ((Below.refl _ _).alloc (Nat.le_refl _) _) _) _ _ _ _ _⟩
    | false =>
     have HF:Hid ((Mill.marks.drop (k+1)).find? (Mill.markAt (s.data.toList.drop at'))=Mill.marks.find? (Mill.markAt (s.data.toList.drop at'))):=by
      rw [hMl] at hb
      rw [hme,hb] at hf;exact hf
     clear hf hd hMl hM hp hme
     go_wp2_with fail
     go_quiet (fail)
     go_wp2
     go_roundw
     case rel=>exact ⟨k+1,_,by omega,by go_num,HF.out,rfl⟩
     case measure=>simp [intOf];omega
   ·have HF:Hid ((Mill.marks.drop (k+1)).find? (Mill.markAt (s.data.toList.drop at'))=Mill.marks.find? (Mill.markAt (s.data.toList.drop at'))):=by rw [Mill.mark_no s at' m hat hin] at hf;exact hf
    have hg:decide ((at':Int)+(m.length:Int)≤(s.size:Int))=false:=by simp;omega
    have hw:IntKind.i64.wrap ((at':Int)+(m.length:Int))=(at':Int)+(m.length:Int):=wrap_small _ (by omega) (by omega)
    clear hf hd hMl hM hp
    go_wp2_with fail
    go_quiet (fail)
    go_wp2
    go_roundw
    case rel=>exact ⟨k+1,_,by omega,by go_num,HF.out,rfl⟩
    case measure=>simp [intOf];omega
  ·have h0:k=28:=by omega
   subst h0
   have HP:Hid (Mill.oneVal (Mill.markP (s.data.toList.drop at')) at' = .tuple #[.agg #[.int .i64 0,.string ⟨#[]⟩,.int .i64 0,.int .i64 0,.int .i64 0],.int .i64 (at':Int),.int .i64 2]):=by
    rw [Hid,Mill.markP,← hf];rfl
   clear hf hcell
   go_wp2
   refine bodyPost_ret (v:=.tuple #[.agg #[.int .i64 0,.string ⟨#[]⟩,.int .i64 0,.int .i64 0,.int .i64 0],.int .i64 (at':Int),.int .i64 2]) (by simp [results,Tryz.results14,go_sem]) rfl ⟨Mill.ret_val HP.out.symm,Mill.below5 _ (Nat.le_refl _) _ (below_drewN ((Below.refl _ _).alloc (Nat.le_refl _) _) _) _ _ _ _ _⟩
theorem l1One_any (s:ByteArray) (at':Nat) (w:World) (hat:at' < s.size) (hs:s.size≤1048576) :
  Calls Tryz.prog 14 #[.string s,.int .i64 (at':Int)] w fun e w'=>e = .returned (Mill.oneVal (Mill.one (s.data.toList.drop at')) at')∧Below w.heap.size w w':=by
 have hd:=Mill.drop_cons s at' hat
 cases h1:Mill.letter (s[at'].toNat:Int) with
 | true =>
  have e:Mill.one (s.data.toList.drop at')=Mill.nameP (Mill.wordOf (s.data.toList.drop at')):=by rw [hd,Mill.one,if_pos h1]
  rw [e];exact l1One_letter s at' w hat hs h1
 | false =>
  cases h2:Mill.digit (s[at'].toNat:Int) with
  | true =>
   have e:Mill.one (s.data.toList.drop at')=Mill.intP (Mill.wordOf (s.data.toList.drop at')):=by rw [hd,Mill.one,if_neg (by simp [h1]),if_pos h2]
   rw [e];exact l1One_digit s at' w hat hs h1 h2
  | false =>
   cases h3:((s[at'].toNat:Int) == 34) with
   | true =>
    have e:Mill.one (s.data.toList.drop at')=Mill.textP (s.data.toList.drop at'):=by rw [hd,Mill.one,if_neg (by simp [h1]),if_neg (by simp [h2]),if_pos (Mill.byte_eq _ 34 h3)]
    rw [e];exact l1One_quote s at' w hat hs h1 h2 h3
   | false =>
    have e:Mill.one (s.data.toList.drop at')=Mill.markP (s.data.toList.drop at'):=by rw [hd,Mill.one,if_neg (by simp [h1]),if_neg (by simp [h2]),if_neg (Mill.byte_ne _ 34 h3)]
    rw [e];exact l1One_mark s at' w hat hs h1 h2 h3
theorem Mill.word_pos (b:UInt8) (r:List UInt8) (h:Mill.isTail b=true):1≤(Mill.wordOf (b::r)).length:=by simp [Mill.wordOf,h]
theorem Mill.word_le (l:List UInt8):(Mill.wordOf l).length≤l.length:=Mill.tw_le _ _
theorem Mill.mark_pos (m:List UInt8) (h:m ∈ Mill.marks):1≤m.length:=by
 have:∀ x ∈ Mill.marks,1≤x.length:=by decide
 exact this m h
theorem Mill.one_size (b:UInt8) (r:List UInt8) (h0:(Mill.one (b::r)).code=0):1≤(Mill.one (b::r)).size∧(Mill.one (b::r)).size≤(b::r).length:=by
 revert h0
 simp only [Mill.one]
 by_cases h1:Mill.letter (b.toNat:Int)=true
 ·rw [if_pos h1]
  have hp:=Mill.word_pos b r (by simp [Mill.isTail,Mill.tail,h1])
  have hl:=Mill.word_le (b::r)
  intro h0
  unfold Mill.nameP at h0 ⊢
  split
  ·exact ⟨hp,hl⟩
  ·split
   ·rename_i h2 h3;rw [if_neg h2,if_pos h3] at h0;simp [Mill.bad] at h0
   ·exact ⟨hp,hl⟩
 ·rw [if_neg h1]
  by_cases h2:Mill.digit (b.toNat:Int)=true
  ·rw [if_pos h2]
   have hp:=Mill.word_pos b r (by simp [Mill.isTail,Mill.tail,h2])
   have hl:=Mill.word_le (b::r)
   intro h0
   unfold Mill.intP at h0 ⊢
   split
   ·rename_i h;rw [h] at h0;simp [Mill.bad] at h0
   ·exact ⟨hp,hl⟩
  ·rw [if_neg h2]
   by_cases h3:b=34
   ·rw [if_pos h3]
    intro h0
    unfold Mill.textP at h0 ⊢
    split
    ·rename_i h;rw [h] at h0;simp [Mill.bad] at h0
    ·rename_i t r2 h
     rw [h] at h0
     have:=Mill.unq_len _ _ _ _ _ (Nat.le_refl _) h
     simp at this
     split
     ·rename_i h4;simp only [if_pos h4] at h0;simp [Mill.bad] at h0
     ·simp;omega
   ·rw [if_neg h3]
    intro h0
    unfold Mill.markP at h0 ⊢
    split
    ·rename_i m h
     have hm:=List.mem_of_find?_eq_some h
     have hq:=List.find?_some h
     have:=Mill.mark_pos m hm
     simp [Mill.markAt] at hq
     simp;omega
    ·rename_i h;rw [h] at h0;simp [Mill.bad] at h0
def Mill.notNl (c:UInt8):Bool:=c != 10
def Mill.rem (l:List UInt8):Nat:=(l.takeWhile Mill.notNl).length
def Mill.scanL : Nat→List UInt8→Nat→List (Mill.Piece × Nat)→List (Mill.Piece × Nat) × Int × Nat
 | 0,_,_,acc=>(acc,0,0)
 | _+1,[],_,acc=>(acc,0,0)
 | f+1,b::r,i,acc=>if b=32∨b=10 then Mill.scanL f r (i+1) acc
   else if b=35 then Mill.scanL f ((b::r).drop (Mill.rem (b::r))) (i+Mill.rem (b::r)) acc
   else if (Mill.one (b::r)).code≠0 then ([],(Mill.one (b::r)).code,i)
   else Mill.scanL f ((b::r).drop (Mill.one (b::r)).size) (i+(Mill.one (b::r)).size) (acc++[(Mill.one (b::r),i)])
def Mill.scan (s:ByteArray):List (Mill.Piece × Nat) × Int × Nat:=if 12000 < s.size then ([],1,0) else Mill.scanL (s.size+1) s.data.toList 0 []
def Mill.tokC (t:Mill.Piece × Nat):List Value:=[.int .i64 t.1.kind,.string (Mill.ba t.1.text),.int .i64 t.1.type,.int .i64 t.1.n,.int .i64 (t.2:Int)]
def Mill.tokCs (ts:List (Mill.Piece × Nat)):List Value:=ts.flatMap Mill.tokC
theorem Mill.tokCs_snoc (ts:List (Mill.Piece × Nat)) (t:Mill.Piece × Nat):Mill.tokCs (ts++[t])=Mill.tokCs ts++Mill.tokC t:=by simp [Mill.tokCs]
def Mill.faultV (c:Int) (a:Nat):Value:=.agg #[.int .i64 c,.int .i64 (a:Int)]
theorem Mill.own_below {W W':World} {B e size n:Nat} {v:Value} {xs:List Value} (h:W.ownsRow B e size v n xs) (hb:Below W.heap.size W W'):W'.ownsRow B e size v n xs:=by
 refine ⟨h.1, ?_⟩
 rcases h.2 with hn | ⟨g,cap,cur,hv,hg,hgg,rest⟩
 ·exact .inl hn
 ·exact .inr ⟨g,cap,cur,hv,hg,by rw [hb.block g (Array.getElem?_eq_some_iff.1 hgg).1];exact hgg,rest⟩
theorem Mill.cell_new (w:World) (cs:Array Value) (t:TypeId) (j:Nat) (u:Value) (h:cs.toList[j]? = some u):(w.alloc (.cells cs t)).cell? ((⟨w.heap.size,0,none⟩:Addr).add j)=some u:=by
 have hadd:(⟨w.heap.size,0,none⟩:Addr).add j=⟨w.heap.size,j,none⟩:=by unfold Addr.add;split <;> simp_all
 rw [hadd,cell_of_row _ _ _ cs t (0,0) (heap_alloc_new w _)]
 simpa using h
theorem Tryz.infoTok : (Tryz.prog.info? 30).map (fun i=>(i.zero,i.size,i.bytes))=some (some (.agg #[.int .i64 0,.string ByteArray.empty,.int .i64 0,.int .i64 0,.int .i64 0]),5,48):=by kernel_rfl
theorem Mill.scanL_gap (f i:Nat) (b:UInt8) (r:List UInt8) (acc:List (Mill.Piece × Nat)) (h:b=32∨b=10):Mill.scanL (f+1) (b::r) i acc=Mill.scanL f r (i+1) acc:=by rw [Mill.scanL,if_pos h]
theorem Mill.scanL_rem (f i:Nat) (b:UInt8) (r:List UInt8) (acc:List (Mill.Piece × Nat)) (h:¬ (b=32∨b=10)) (h2:b=35):Mill.scanL (f+1) (b::r) i acc=Mill.scanL f ((b::r).drop (Mill.rem (b::r))) (i+Mill.rem (b::r)) acc:=by rw [Mill.scanL,if_neg h,if_pos h2]
theorem Mill.scanL_bad (f i:Nat) (b:UInt8) (r:List UInt8) (acc:List (Mill.Piece × Nat)) (h:¬ (b=32∨b=10)) (h2:b≠35) (h3:(Mill.one (b::r)).code≠0):Mill.scanL (f+1) (b::r) i acc=([],(Mill.one (b::r)).code,i):=by rw [Mill.scanL,if_neg h,if_neg h2,if_pos h3]
theorem Mill.scanL_tok (f i:Nat) (b:UInt8) (r:List UInt8) (acc:List (Mill.Piece × Nat)) (h:¬ (b=32∨b=10)) (h2:b≠35) (h3:(Mill.one (b::r)).code=0):Mill.scanL (f+1) (b::r) i acc=Mill.scanL f ((b::r).drop (Mill.one (b::r)).size) (i+(Mill.one (b::r)).size) (acc++[(Mill.one (b::r),i)]):=by rw [Mill.scanL,if_neg h,if_neg h2,if_neg (by simpa using h3)]
theorem Mill.scanL_nil (f i:Nat) (acc:List (Mill.Piece × Nat)):Mill.scanL f [] i acc=(acc,0,0):=by cases f <;> rfl
def Mill.remN (s:ByteArray) (a:Nat):Nat:=Mill.rem (s.data.toList.drop a)
theorem Mill.remN_le (s:ByteArray) (a:Nat):Mill.remN s a≤s.size - a:=by
 have:=Mill.tw_le Mill.notNl (s.data.toList.drop a);simpa [Mill.remN,Mill.rem] using this
theorem Mill.rem_step (s:ByteArray) (a k:Nat) (h:k < s.size) (ha:a≤k) (hk:k - a≤Mill.remN s a) (ht:((s[k].toNat:Int) != 10)=true):k+1 - a≤Mill.remN s a:=by
 have:=Mill.tw_step Mill.notNl (s.data.toList.drop a) (k - a) (by simp;omega) hk (by
  rw [List.getElem_drop]
  have e:a+(k - a)=k:=by omega
  simp only [e]
  have hne:=Mill.byte_ne s[k] 10 (by simpa [bne] using ht)
  simp [Mill.notNl];exact hne)
 have e:k+1 - a=k - a+1:=by omega
 rw [e];exact this
theorem Mill.rem_stop (s:ByteArray) (a k:Nat) (ha:a≤k) (hk:k - a≤Mill.remN s a) (ht:∀ h:k < s.size,((s[k].toNat:Int) != 10)=false):k - a=Mill.remN s a :=
 Mill.tw_stop Mill.notNl (s.data.toList.drop a) (k - a) hk (fun h=>by
  rw [List.getElem_drop]
  have e:a+(k - a)=k:=by omega
  have hk:k < s.size:=by simp at h;omega
  simp only [e]
  have heq:=Mill.byte_eq s[k] 10 (by simpa [bne] using ht hk)
  simp [Mill.notNl];exact heq)
def Mill.ScanPost (w:World) (r:List (Mill.Piece × Nat) × Int × Nat) (e:Ending) (w':World):Prop :=
 ∃ v,e = .returned (.tuple #[v,Mill.faultV r.2.1 r.2.2])∧w'.ownsRow w.heap.size 30 5 v r.1.length (Mill.tokCs r.1)∧Below w.heap.size w w'
theorem specScan_long (s:ByteArray) (w:World) (hl:12000 < s.size) :
  Calls Tryz.prog 6 #[.string s] w fun e w'=>Mill.ScanPost w (Mill.scan s) e w':=by
 have HS:Hid (Mill.scan s=([],1,0)):=by rw [Hid,Mill.scan,if_pos hl]
 have hl':(12000:Int) < (s.size:Int):=by omega
 go_enter Tryz.func6,Tryz.ntmps6
 go_wp2
 refine bodyPost_ret (v:=.tuple #[.slice (some ⟨w.heap.size+1,0,none⟩) 0 0,.agg #[.int .i64 1,.int .i64 0]]) (by simp [results,Tryz.results6,go_sem]) rfl ?_
 rw [HS.out]
 exact ⟨_,rfl,by
  have h:=World.ownsRow_made (base:=w.heap.size) (e:=30) (size:=5) (w.alloc (.cells #[.int .i64 1,.int .i64 0] 26)) #[] 0 (by simp) (by decide) rfl
  simpa [Mill.tokCs] using h,((Below.refl _ w).alloc (Nat.le_refl _) _).alloc (by simp) _⟩
theorem Mill.fault_cells {w wr:World} (hb:Below (w.heap.size+1) (w.alloc (.cells #[.int .i64 0,.int .i64 0] 26)) wr) :
  wr.cell? ⟨w.heap.size,0,none⟩=some (.int .i64 0)∧wr.cell? ⟨w.heap.size,1,none⟩=some (.int .i64 0)∧wr.frozen? ⟨w.heap.size,0,none⟩=false∧wr.frozen? ⟨w.heap.size,1,none⟩=false∧w.heap.size < wr.heap.size:=by
 refine ⟨?_, ?_, ?_, ?_, ?_⟩
 ·rw [hb.cell (p:=⟨w.heap.size,0,none⟩) (by simp)];simp [go_sem]
 ·rw [hb.cell (p:=⟨w.heap.size,1,none⟩) (by simp)];simp [go_sem]
 ·rw [hb.frozen (p:=⟨w.heap.size,0,none⟩) (by simp)];simp [go_sem]
 ·rw [hb.frozen (p:=⟨w.heap.size,1,none⟩) (by simp)];simp [go_sem]
 ·have:=hb.size;simp at this;omega
theorem Mill.cell5_new (w:World) (o:Obj) (a b c d e:Value) (t:TypeId) (j:Nat) (u:Value) (h:[a,b,c,d,e][j]? = some u):((w.alloc o).alloc (.cells #[a,b,c,d,e] t)).cell? ((⟨w.heap.size+1,0,none⟩:Addr).add j)=some u:=by
 have:=Mill.cell_new (w.alloc o) #[a,b,c,d,e] t j u h
 simpa using this
theorem Mill.own_mono {w:World} {B B' e size n:Nat} {v:Value} {xs:List Value} (h:w.ownsRow B e size v n xs) (hB:B'≤B):w.ownsRow B' e size v n xs:=by
 refine ⟨h.1, ?_⟩
 rcases h.2 with hn | ⟨g,cap,cur,hv,hg,rest⟩
 ·exact .inl hn
 ·exact .inr ⟨g,cap,cur,hv,by omega,rest⟩
theorem Mill.own_set2 {B:Nat} {wr:World} {e size n:Nat} {v:Value} {xs:List Value} (h:wr.ownsRow (B+1) e size v n xs) (c0 c1:Value) :
  ((wr.setCell ⟨B,0,none⟩ c0).setCell ⟨B,1,none⟩ c1).ownsRow B e size v n xs :=
 Mill.own_mono (ownsRow_setCell_below (ownsRow_setCell_below h (a:=⟨B,0,none⟩) (by simp) _) (a:=⟨B,1,none⟩) (by simp) _) (by omega)
theorem Mill.below_set2 {w wr:World} {o:Obj} (hb:Below (w.heap.size+1) (w.alloc o) wr) (c0 c1:Value) :
  Below w.heap.size w ((wr.setCell ⟨w.heap.size,0,none⟩ c0).setCell ⟨w.heap.size,1,none⟩ c1) :=
 ((((Below.refl _ w).alloc (Nat.le_refl _) _).trans (hb.mono (by omega))).setCell (p:=⟨w.heap.size,0,none⟩) (Nat.le_refl _) _).setCell (p:=⟨w.heap.size,1,none⟩) (Nat.le_refl _) _
theorem specScan_short (s:ByteArray) (w:World) (hl:s.size≤12000) :
  Calls Tryz.prog 6 #[.string s] w fun e w'=>Mill.ScanPost w (Mill.scan s) e w':=by
 obtain ⟨i0,hi,hz0,hz1,hz2⟩:=info_parts Tryz.infoTok
 have HS:Hid (Mill.scan s=Mill.scanL (s.size+1) s.data.toList 0 []):=by rw [Hid,Mill.scan,if_neg (by omega)]
 go_enter Tryz.func6,Tryz.ntmps6
 go_wp2
 go_loopw [4,5,6,7,8] (fun v t _ _ _ wr => ∃ (i f:Nat) (acc:List (Mill.Piece × Nat)),i≤s.size∧acc.length≤i∧s.size - i < f∧t = .int .i64 (i:Int)∧wr.ownsRow (w.heap.size+1) 30 5 v acc.length (Mill.tokCs acc)∧Below (w.heap.size+1) (w.alloc (.cells #[.int .i64 0,.int .i64 0] 26)) wr∧Mill.scanL f (s.data.toList.drop i) i acc=Mill.scan s) (fun _ t _ _ _ _=>s.size - (intOf t).toNat)
 case atStart =>
  refine ⟨0,s.size+1,[],by omega,by simp,by omega,rfl, ?_,(Below.refl _ _).alloc (by simp) _,by rw [HS.out];rfl⟩
  have h:=World.ownsRow_made (base:=w.heap.size+1) (e:=30) (size:=5) (w.alloc (.cells #[.int .i64 0,.int .i64 0] 26)) #[] 0 (by simp) (by decide) rfl
  simpa [Mill.tokCs] using h
 case round =>
  obtain ⟨i,f,acc,hi1,hi2,hf,rfl,hown,hbw,hu⟩:=hrel
  obtain ⟨hc0,hc1,hf0,hf1,hsz⟩:=Mill.fault_cells hbw
  clear HS
  obtain ⟨f,rfl⟩:∃ f',f=f'+1:=⟨f - 1,by omega⟩
  by_cases hlt:i < s.size
  ·have hdc:=Mill.drop_cons s i hlt
   rw [hdc] at hu
   cases h32:((s[i].toNat:Int) == 32) with
   | true =>
    have HU:Hid (Mill.scanL f (s.data.toList.drop (i+1)) (i+1) acc=Mill.scan s):=by
     rw [Mill.scanL_gap _ _ _ _ _ (.inl (Mill.byte_eq _ 32 h32))] at hu;exact hu
    clear hu hdc
    go_wp2
    go_roundw
    case rel=>exact ⟨i+1,f,acc,by omega,by omega,by omega,by go_num,hown,hbw,HU.out⟩
    case measure=>simp [intOf];omega
   | false =>
    cases h10:((s[i].toNat:Int) == 10) with
    | true =>
     have HU:Hid (Mill.scanL f (s.data.toList.drop (i+1)) (i+1) acc=Mill.scan s):=by
      rw [Mill.scanL_gap _ _ _ _ _ (.inr (Mill.byte_eq _ 10 h10))] at hu;exact hu
     clear hu hdc
     go_wp2
     go_roundw
     case rel=>exact ⟨i+1,f,acc,by omega,by omega,by omega,by go_num,hown,hbw,HU.out⟩
     case measure=>simp [intOf];omega
    | false =>
     have hng:¬ (s[i]=32∨s[i]=10):=by
      rintro (h | h)
      ·exact Mill.byte_ne _ 32 h32 h
      ·exact Mill.byte_ne _ 10 h10 h
     cases h35:((s[i].toNat:Int) == 35) with
     | true =>
      have hrm:=Mill.remN_le s i
      have hr1:1≤Mill.remN s i:=by
       have:=Mill.rem_step s i i hlt (Nat.le_refl _) (by omega) (by simp at h35 ⊢;omega)
       omega
      have HU:Hid (Mill.scanL f (s.data.toList.drop (i+Mill.remN s i)) (i+Mill.remN s i) acc=Mill.scan s):=by
       rw [Mill.scanL_rem _ _ _ _ _ hng (Mill.byte_eq _ 35 h35),← hdc,List.drop_drop] at hu;exact hu
      clear hu hdc hng
      go_wp2
      go_loop [5] (fun t => ∃ k:Nat,i≤k∧k≤s.size∧k - i≤Mill.remN s i∧t = .int .i64 (k:Int)) (fun t=>s.size - (intOf t).toNat)
      case atStart=>exact ⟨i,by omega,by omega,by omega,rfl⟩
      case round =>
       obtain ⟨k,hk0,hks,hkw,rfl⟩:=hrel
       by_cases hgo:∃ h:k < s.size,((s[k].toNat:Int) != 10)=true
       ·obtain ⟨hlk,ht⟩:=hgo
        have hk1:=Mill.rem_step s i k hlk hk0 hkw ht
        go_wp2
        go_round
        case rel=>exact ⟨k+1,by omega,by omega,hk1,by go_num⟩
        case measure=>simp [intOf];omega
       ·have hnt:∀ h:k < s.size,((s[k].toNat:Int) != 10)=false:=fun h=>by
         cases hc:((s[k].toNat:Int) != 10) with
         | true=>exact absurd ⟨h,hc⟩ hgo
         | false=>rfl
        have hkl:=Mill.rem_stop s i k hk0 hkw hnt
        have hke:i+Mill.remN s i=k:=by omega
        rw [hke] at HU
        have hki:i < k:=by omega
        clear hkl hgo hkw hke
        by_cases hlk:k < s.size
        ·have ht:=hnt hlk
         clear hnt
         go_wp2
         go_roundw
         case rel=>exact ⟨k,f,acc,by omega,by omega,by omega,rfl,hown,hbw,HU.out⟩
         case measure=>simp [intOf];omega
        ·clear hnt
         go_wp2
         go_roundw
         case rel=>exact ⟨k,f,acc,by omega,by omega,by omega,rfl,hown,hbw,HU.out⟩
         case measure=>simp [intOf];omega
     | false =>
      have hn35:=Mill.byte_ne _ 35 h35
      by_cases hcd:(Mill.one (s.data.toList.drop i)).code=0
      ·have hp1:=Mill.one_size s[i] (s.data.toList.drop (i+1)) (by rw [← hdc];exact hcd)
       rw [← hdc] at hp1
       have hp2:(s.data.toList.drop i).length=s.size - i:=by simp
       have HU:Hid (Mill.scanL f (s.data.toList.drop (i+(Mill.one (s.data.toList.drop i)).size)) (i+(Mill.one (s.data.toList.drop i)).size) (acc++[(Mill.one (s.data.toList.drop i),i)])=Mill.scan s):=by
        rw [hdc] at hcd
        rw [Mill.scanL_tok _ _ _ _ _ hng hn35 hcd,← hdc,List.drop_drop] at hu;exact hu
       have HO:Hid (Mill.oneVal (Mill.one (s.data.toList.drop i)) i = .tuple #[.agg #[.int .i64 (Mill.one (s.data.toList.drop i)).kind,.string (Mill.ba (Mill.one (s.data.toList.drop i)).text),.int .i64 (Mill.one (s.data.toList.drop i)).type,.int .i64 (Mill.one (s.data.toList.drop i)).n,.int .i64 (i:Int)],.int .i64 ((i:Int)+((Mill.one (s.data.toList.drop i)).size:Int)),.int .i64 0]):=by
        rw [Hid,Mill.oneVal,if_pos hcd];rfl
       clear hu hng hn35 hdc hcd
       obtain ⟨p,HP⟩:∃ p,Hid (Mill.one (s.data.toList.drop i)=p):=⟨_,rfl⟩
       rw [HP.out] at HU HO hp1
       obtain ⟨hp3,hp4⟩:=hp1
       rw [hp2] at hp4
       clear hp2
       have HT:Hid (Mill.tokC (p,i)=[.int .i64 p.kind,.string (Mill.ba p.text),.int .i64 p.type,.int .i64 p.n,.int .i64 (i:Int)]):=rfl
       generalize hK:p.kind=K at HO HT
       generalize hT:Mill.ba p.text=X at HO HT
       generalize hY:p.type=Y at HO HT
       generalize hN:p.n=N at HO HT
       clear hK hT hY hN
       go_wp2_with (first
        | (go_at_call 14;refine (l1One_any s i _ hlt (by omega)).mono ?_;rintro e w1 ⟨rfl,hb⟩;rw [HP.out,HO.out];have hz:=hb.size;have hown1:=Mill.own_below hown hb;have hbw1:=hbw.trans (hb.mono (B':=w.heap.size+1) (by omega)))
        | (at_builtin;refine wpList_append_own _ rfl _ _ 24 rfl (w.heap.size+1) 30 i0 (.agg #[.int .i64 0,.string ByteArray.empty,.int .i64 0,.int .i64 0,.int .i64 0]) 5 48 Tryz.underlying24 hi hz0 hz1 hz2 rfl (by decide) _ _ _ rfl ((hown1.alloc _).alloc _) ⟨w1.heap.size+1,0,none⟩ 1 1 [.int .i64 K,.string X,.int .i64 Y,.int .i64 N,.int .i64 (i:Int)] rfl rfl (Mill.cell5_new _ _ _ _ _ _ _ _) (fun x hx=>by simp at hx;rcases hx with rfl | rfl | rfl | rfl | rfl <;> rfl) (by unfold maxLen;omega) (by omega) (by simp;omega) ?_;intro v' w3 hown' hgrow3 hnil3))
       have hb3:Below (w.heap.size+1) (w.alloc (.cells #[.int .i64 0,.int .i64 0] 26)) w3:=Below.grown ((hbw1.alloc (by omega) _).alloc (by simp;omega) _) hgrow3 (by simp;omega) (fun j hj=>(hown.lt _ hj).1)
       go_roundw
       case rel=>exact ⟨i+p.size,f,acc++[(p,i)],by omega,by simp;omega,by omega,by go_num,by rw [Mill.tokCs_snoc,HT.out];simpa using hown',hb3,HU.out⟩
       case measure=>simp [intOf];omega
      ·have HU:Hid (Mill.scan s=([],(Mill.one (s.data.toList.drop i)).code,i)):=by
        rw [← hdc] at hu
        rw [hdc] at hu hcd
        rw [Mill.scanL_bad _ _ _ _ _ hng hn35 hcd,← hdc] at hu;exact hu.symm
       have HO:Hid (Mill.oneVal (Mill.one (s.data.toList.drop i)) i = .tuple #[.agg #[.int .i64 0,.string ⟨#[]⟩,.int .i64 0,.int .i64 0,.int .i64 0],.int .i64 (i:Int),.int .i64 (Mill.one (s.data.toList.drop i)).code]):=by
        rw [Hid,Mill.oneVal,if_neg hcd];rfl
       clear hu hng hn35 hdc
       obtain ⟨c,hc⟩:∃ c,c=(Mill.one (s.data.toList.drop i)).code:=⟨_,rfl⟩
       rw [← hc] at HU HO hcd
       have hcd':(c != 0)=true:=by simpa using hcd
       clear hc hcd
       go_wp2_with (go_at_call 14;refine (l1One_any s i _ hlt (by omega)).mono ?_;rintro e w1 ⟨rfl,hb⟩;rw [HO.out];obtain ⟨hd0,hd1,hg0,hg1,hz⟩:=Mill.fault_cells (hbw.trans (hb.mono (by omega))))
       refine bodyPost_ret (v:=.tuple #[.slice (some ⟨w1.heap.size+1,0,none⟩) 0 0,.agg #[.int .i64 c,.int .i64 (i:Int)]]) (by simp [results,Tryz.results6,go_sem,hd0,hd1,hz]) rfl ?_
       rw [HU.out]
       have hbw1:=hbw.trans (hb.mono (B':=w.heap.size+1) (by omega))
       refine ⟨_,rfl, ?_,((Mill.below_set2 hbw1 _ _).alloc (by simp;omega) _).alloc (by simp;omega) _⟩
       have h:=World.ownsRow_made (base:=w.heap.size) (e:=30) (size:=5) (((w1.setCell ⟨w.heap.size,0,none⟩ (.int .i64 c)).setCell ⟨w.heap.size,1,none⟩ (.int .i64 (i:Int))).alloc (.cells #[.int .i64 0,.string ⟨#[]⟩,.int .i64 0,.int .i64 0,.int .i64 0] 30)) #[] 0 (by simp;omega) (by decide) rfl
       simpa [Mill.tokCs] using h
  ·have HU:Hid (Mill.scan s=(acc,0,0)):=by
    rw [List.drop_of_length_le (by simp;omega),Mill.scanL_nil] at hu;exact hu.symm
   clear hu
   go_wp2
   refine bodyPost_ret (v:=.tuple #[u4,.agg #[.int .i64 0,.int .i64 0]]) (by simp [results,Tryz.results6,go_sem,hc0,hc1]) rfl ?_
   rw [HU.out]
   exact ⟨u4,rfl,Mill.own_set2 hown _ _,Mill.below_set2 hbw _ _⟩
theorem specScan_any (s:ByteArray) (w:World) :
  Calls Tryz.prog 6 #[.string s] w fun e w'=>Mill.ScanPost w (Mill.scan s) e w':=by
 by_cases h:12000 < s.size
 ·exact specScan_long s w h
 ·exact specScan_short s w (by omega)
theorem Mill.own_form {w:World} {B e size n:Nat} {v:Value} {xs:List Value} (h:w.ownsRow B e size v n xs) (hn:0 < n):∃ g cap,v = .slice (some ⟨g,0,none⟩) n cap∧B≤g∧g < w.heap.size:=by
 rcases h.2 with ⟨_,h0⟩ | ⟨g,cap,cur,rfl,hg,hgg,_⟩
 ·omega
 ·exact ⟨g,cap,rfl,hg,(Array.getElem?_eq_some_iff.1 hgg).1⟩
theorem Mill.own_len {w:World} {B e size n:Nat} {v:Value} {xs:List Value} (h:w.ownsRow B e size v n xs):∃ a cap,v = .slice a n cap:=by
 rcases h.2 with ⟨rfl,h0⟩ | ⟨g,cap,cur,rfl,_⟩
 ·exact ⟨none,0,by rw [h0]⟩
 ·exact ⟨_,_,rfl⟩
theorem Mill.tokCs_at (ts:List (Mill.Piece × Nat)) (i:Nat) (h:i < ts.length) (j:Nat) (hj:j < 5):(Mill.tokCs ts)[i * 5+j]? = (Mill.tokC ts[i])[j]?:=by
 induction ts generalizing i with
 | nil=>simp at h
 | cons t r ih =>
  cases i with
  | zero =>
   simp only [Mill.tokCs,List.flatMap_cons,Nat.zero_mul,Nat.zero_add]
   rw [List.getElem?_append_left (by simp [Mill.tokC];omega)];rfl
  | succ i =>
   simp only [Mill.tokCs,List.flatMap_cons]
   rw [List.getElem?_append_right (by simp [Mill.tokC];omega)]
   have e:(i+1) * 5+j - (Mill.tokC t).length=i * 5+j:=by simp [Mill.tokC];omega
   rw [e]
   exact ih i (by simpa using h)
end Go.Proofs.YtfoimmnlojjfbaaGreatDoor
namespace Go.Proofs.YtfoimmnlojjfbaaGreatDoor
open Go.RowKit Go.Maps Go.WideMaps
def Mill.wordList : List (List UInt8 × Int):=[([98,111,111,108],1),([116,101,120,116],2),([117,56],3),([117,49,54],4),([117,51,50],5),([117,54,52],6),([105,56],7),([105,49,54],8),([105,51,50],9),([105,54,52],10),([102,110],0),([108,101,116],0),([105,102],0),([101,108,115,101],0),([119,104,105,108,101],0),([98,114,101,97,107],0),([99,111,110,116,105,110,117,101],0),([114,101,116,117,114,110],0),([102,97,105,108],0),([119,114,105,116,101],0),([115,97,121],0),([116,114,117,101],0),([102,97,108,115,101],0),([114,101,97,100],0),([104,97,115],0),([108,105,115,116],0),([116,111,111,108],0),([97,114,103],0),([108,101,110],0),([97,116],0),([99,117,116],0),([102,105,110,100],0),([99,104,114],0),([100,101,99],0),([110,117,109],0)]
def Mill.wordsD : DataW Unit:=Mill.wordList.foldl (fun D p=>D.put (.string p.1) (.lit (.int .i64 p.2))) (.map [])
theorem Mill.wpList_insert_own {H:Type} {P:Program} (w:World) {ops:Array Oper} {rest:List Oper} {o:Oper} {a:Act} {Q:Exit→Act→World→Prop}
  (hg:o.guard=none) (m x v:Operand) (t:TypeId) (hop:o.op=Op.insert t m x v)
  (k e:TypeId) (K:Keyed P k) (ht:P.underlying t=some (.map k e)) (R:Value→Option (DataW H × List MemPlace)) (b n:Nat) (D:DataW H)
  (hm:a.eval m = .map (some b)) (hown:w.ownsMap P k R b n D) (hn:n < maxLen) (key val:Value) (kl:Lit) (hx:a.eval x=key) (hv:a.eval v=val) (hkey:keyOf P k key=some kl)
  (d:DataW H) (ps:List MemPlace) (hval:R val=some (d,ps))
  (hK:∀ w',w'.ownsMap P k R b (n+1) (D.put kl d)→w.grownBy w' (some b)→wpList P ops Q rest (a.put o.dst undef) w') :
  wpList P ops Q (o::rest) a w:=by
 refine wpList_plain hg fun K' hK' => ?_
 obtain ⟨w',hrun,r1,r2⟩:=hown.update K ht hn hkey hval
 unfold Oper.wp
 simp [execOp,hop,hm,hx,hv,hrun,Result.andThen]
 exact hK' _ _ (hK w' r1 r2)
theorem Tryz.lawStr : Keyed Tryz.prog 9:=string_keyed Tryz.underlying9
theorem Tryz.zeroInt (w:World):(zeroValue 3).run Tryz.prog w = .ok (.int .i64 0) w:=by kernel_rfl
theorem Mill.grow {B:Nat} {w W W':World} (h:Below B w W) (hs:B < W.heap.size) (g:W.grownBy W' (some B)):Below B w W'∧B < W'.heap.size :=
 ⟨h.grown g (by omega) (fun j hj=>by cases hj;exact Nat.le_refl _),by have:=g.size;omega⟩
theorem takenWords_any (w:World) :
  Calls Tryz.prog 28 #[] w fun e w'=>e = .returned (.map (some w.heap.size))∧w'.ownsMap Tryz.prog 9 (plainElem Tryz.prog 3) w.heap.size 35 Mill.wordsD∧Below w.heap.size w w':=by
 have hmm:=@run_makeMap Tryz.prog
 have hM:(w.alloc (.map #[] 0)).ownsMap Tryz.prog 9 (plainElem (H:=Unit) Tryz.prog 3) w.heap.size 0 (.map []):=World.ownsMap_made w _ _ _
 have hB:Below w.heap.size w (w.alloc (.map #[] 0))∧w.heap.size < (w.alloc (.map #[] 0)).heap.size:=⟨(Below.refl _ _).alloc (Nat.le_refl _) _,by simp⟩
 go_enter Tryz.func28,Tryz.ntmps28
 go_wp2_with (refine Mill.wpList_insert_own _ rfl _ _ _ 57 rfl 9 3 Tryz.lawStr Tryz.underlying57 _ w.heap.size _ _ rfl hM (by decide) _ _ _ rfl rfl (keyOf_string_mk Tryz.underlying9 (by decide)) _ [] (plainElem_int Tryz.underlying3 (by decide)) ?_;intro w1 hM1 hG1;replace hM:=hM1;replace hB:=Mill.grow hB.1 hB.2 hG1;clear hM1 hG1)
 go_ret
 exact ⟨rfl,hM,hB.1⟩
end Go.Proofs.YtfoimmnlojjfbaaGreatDoor
namespace Go.Proofs.YtfoimmnlojjfbaaGreatDoor
open Go.RowKit Go.Maps Go.WideMaps
theorem Mill.isMap_put (D:DataW Unit) (h:IsMap D) (k:Lit) (d:DataW Unit):IsMap (D.put k d):=by
 obtain ⟨es,rfl⟩:=h;exact ⟨_,rfl⟩
theorem Mill.fold_at (k:List UInt8):∀ (l:List (List UInt8 × Int)) (D:DataW Unit) (r:Int),IsMap D→D.atKey (.string k) (.lit (.int .i64 0)) = .lit (.int .i64 r) →
  (l.foldl (fun D p=>D.put (.string p.1) (.lit (.int .i64 p.2))) D).atKey (.string k) (.lit (.int .i64 0)) = .lit (.int .i64 (l.foldl (fun r p=>if p.1=k then p.2 else r) r))
 | [],_,_,_,h=>h
 | p::l,D,r,hD,h=>by
  rw [List.foldl_cons,List.foldl_cons]
  refine Mill.fold_at k l _ _ (Mill.isMap_put D hD _ _) ?_
  by_cases hp:p.1=k
  ·rw [if_pos hp,hp,atKey_put_same hD (by trivial)]
  ·rw [if_neg hp,atKey_put_other (by intro e;exact hp (by injection e with e1;exact e1.symm)),h]
theorem Mill.fold_has (k:List UInt8):∀ (l:List (List UInt8 × Int)) (D:DataW Unit) (r:Bool),IsMap D→Maps.has D (.string k)=r →
  Maps.has (l.foldl (fun D p=>D.put (.string p.1) (.lit (.int .i64 p.2))) D) (.string k)=l.foldl (fun r p=>if p.1=k then true else r) r
 | [],_,_,_,h=>h
 | p::l,D,r,hD,h=>by
  rw [List.foldl_cons,List.foldl_cons]
  refine Mill.fold_has k l _ _ (Mill.isMap_put D hD _ _) ?_
  by_cases hp:p.1=k
  ·rw [if_pos hp,hp,has_put_same hD (by trivial)]
  ·rw [if_neg hp,has_put_other (by intro e;exact hp (by injection e with e1;exact e1.symm)),h]
theorem Mill.typeOf_ba (k:List UInt8):Mill.typeOf (Mill.ba k)=if k=[98,111,111,108] then 1 else if k=[116,101,120,116] then 2 else if k=[117,56] then 3 else if k=[117,49,54] then 4 else if k=[117,51,50] then 5 else if k=[117,54,52] then 6 else if k=[105,56] then 7 else if k=[105,49,54] then 8 else if k=[105,51,50] then 9 else if k=[105,54,52] then 10 else 0:=by
 have hk:(Mill.ba k).toList=k:=by rw [ByteArray.toList_eq];rfl
 have he:∀ m:List UInt8,((⟨m.toArray⟩:ByteArray).toList == (Mill.ba k).toList)=true ↔ k=m:=fun m=>by rw [hk,ByteArray.toList_eq];show (m == k)=true ↔ k=m;rw [beq_iff_eq];exact eq_comm
 unfold Mill.typeOf
 simp only [Mill.typeFrom]
 rw [show Mill.typeWord 1=⟨[98,111,111,108].toArray⟩ from rfl]
 rw [show Mill.typeWord (1+1)=⟨[116,101,120,116].toArray⟩ from rfl]
 rw [show Mill.typeWord (1+1+1)=⟨[117,56].toArray⟩ from rfl]
 rw [show Mill.typeWord (1+1+1+1)=⟨[117,49,54].toArray⟩ from rfl]
 rw [show Mill.typeWord (1+1+1+1+1)=⟨[117,51,50].toArray⟩ from rfl]
 rw [show Mill.typeWord (1+1+1+1+1+1)=⟨[117,54,52].toArray⟩ from rfl]
 rw [show Mill.typeWord (1+1+1+1+1+1+1)=⟨[105,56].toArray⟩ from rfl]
 rw [show Mill.typeWord (1+1+1+1+1+1+1+1)=⟨[105,49,54].toArray⟩ from rfl]
 rw [show Mill.typeWord (1+1+1+1+1+1+1+1+1)=⟨[105,51,50].toArray⟩ from rfl]
 rw [show Mill.typeWord (1+1+1+1+1+1+1+1+1+1)=⟨[105,54,52].toArray⟩ from rfl]
 simp only [he]
 rfl
theorem Mill.typeOf_mem (k:List UInt8):Mill.typeOf (Mill.ba k)≠0 ↔ k ∈ Mill.typeWords:=by
 rw [Mill.typeOf_ba]
 simp only [Mill.typeWords,List.mem_cons,List.not_mem_nil,or_false]
 by_cases h0:k=[98,111,111,108]
 ·simp [h0]
 by_cases h1:k=[116,101,120,116]
 ·simp [h1]
 by_cases h2:k=[117,56]
 ·simp [h2]
 by_cases h3:k=[117,49,54]
 ·simp [h3]
 by_cases h4:k=[117,51,50]
 ·simp [h4]
 by_cases h5:k=[117,54,52]
 ·simp [h5]
 by_cases h6:k=[105,56]
 ·simp [h6]
 by_cases h7:k=[105,49,54]
 ·simp [h7]
 by_cases h8:k=[105,51,50]
 ·simp [h8]
 by_cases h9:k=[105,54,52]
 ·simp [h9]
 simp [h0,h1,h2,h3,h4,h5,h6,h7,h8,h9]
theorem Mill.builtIn_mem (k:List UInt8):Mill.builtIn (Mill.ba k) 12 1=true ↔ k ∈ Mill.builtWords:=by
 have hk:(Mill.ba k).toList=k:=by rw [ByteArray.toList_eq];rfl
 have he:∀ m:List UInt8,((⟨m.toArray⟩:ByteArray).toList == (Mill.ba k).toList)=decide (k=m):=fun m=>by
  rw [hk,ByteArray.toList_eq];show (m == k)=decide (k=m)
  rw [Bool.eq_iff_iff];simp only [beq_iff_eq,decide_eq_true_eq];exact eq_comm
 simp only [Mill.builtIn]
 rw [show Mill.builtWord 1=⟨[114,101,97,100].toArray⟩ from rfl]
 rw [show Mill.builtWord (1+1)=⟨[104,97,115].toArray⟩ from rfl]
 rw [show Mill.builtWord (1+1+1)=⟨[108,105,115,116].toArray⟩ from rfl]
 rw [show Mill.builtWord (1+1+1+1)=⟨[116,111,111,108].toArray⟩ from rfl]
 rw [show Mill.builtWord (1+1+1+1+1)=⟨[97,114,103].toArray⟩ from rfl]
 rw [show Mill.builtWord (1+1+1+1+1+1)=⟨[108,101,110].toArray⟩ from rfl]
 rw [show Mill.builtWord (1+1+1+1+1+1+1)=⟨[97,116].toArray⟩ from rfl]
 rw [show Mill.builtWord (1+1+1+1+1+1+1+1)=⟨[99,117,116].toArray⟩ from rfl]
 rw [show Mill.builtWord (1+1+1+1+1+1+1+1+1)=⟨[102,105,110,100].toArray⟩ from rfl]
 rw [show Mill.builtWord (1+1+1+1+1+1+1+1+1+1)=⟨[99,104,114].toArray⟩ from rfl]
 rw [show Mill.builtWord (1+1+1+1+1+1+1+1+1+1+1)=⟨[100,101,99].toArray⟩ from rfl]
 rw [show Mill.builtWord (1+1+1+1+1+1+1+1+1+1+1+1)=⟨[110,117,109].toArray⟩ from rfl]
 simp only [he,Mill.builtWords,Bool.or_eq_true,decide_eq_true_eq,List.mem_cons,List.not_mem_nil,Bool.false_eq_true]
theorem Mill.taken_mem (k:List UInt8):Mill.taken (Mill.ba k)=true ↔ k ∈ Mill.wordList.map Prod.fst:=by
 have hk:(Mill.ba k).toList=k:=by rw [ByteArray.toList_eq];rfl
 have hw:Mill.wordList.map Prod.fst=Mill.typeWords++(Mill.plainWords++Mill.builtWords):=rfl
 have ha:Mill.plainWords.any (fun p=>p == (Mill.ba k).toList)=true ↔ k ∈ Mill.plainWords:=by
  rw [hk,List.any_eq_true]
  constructor
  ·rintro ⟨x,hx,h⟩;rw [← beq_iff_eq.1 h];exact hx
  ·intro h;exact ⟨k,h,by simp⟩
 have ht:(Mill.typeOf (Mill.ba k) != 0)=true ↔ k ∈ Mill.typeWords:=by rw [bne_iff_ne];exact Mill.typeOf_mem k
 rw [hw,List.mem_append,List.mem_append,Mill.taken,Bool.or_eq_true,Bool.or_eq_true,ht,ha,Mill.builtIn_mem]
 constructor
 ·rintro ((h | h) | h)
  ·exact .inl h
  ·exact .inr (.inr h)
  ·exact .inr (.inl h)
 ·rintro (h | h | h)
  ·exact .inl (.inl h)
  ·exact .inr h
  ·exact .inl (.inr h)
theorem Mill.fold_any (k:List UInt8):∀ (l:List (List UInt8 × Int)) (r:Bool),l.foldl (fun r p=>if p.1=k then true else r) r=true ↔ r=true∨k ∈ l.map Prod.fst
 | [],r=>by simp
 | p::l,r=>by
  rw [List.foldl_cons,Mill.fold_any k l]
  by_cases hp:p.1=k
  ·simp [hp]
  ·rw [if_neg hp];simp only [List.map_cons,List.mem_cons]
   constructor
   ·rintro (h | h)
    ·exact .inl h
    ·exact .inr (.inr h)
   ·rintro (h | h | h)
    ·exact .inl h
    ·exact absurd h.symm hp
    ·exact .inr h
theorem Mill.words_has (k:List UInt8):Maps.has Mill.wordsD (.string k)=Mill.taken (Mill.ba k):=by
 rw [Mill.wordsD,Mill.fold_has k Mill.wordList (.map []) false ⟨[],rfl⟩ rfl,Bool.eq_iff_iff,Mill.fold_any,Mill.taken_mem]
 simp
theorem Mill.words_at (k:List UInt8):(Mill.wordsD).atKey (.string k) (.lit (.int .i64 0)) = .lit (.int .i64 (Mill.typeOf (Mill.ba k))):=by
 rw [Mill.wordsD,Mill.fold_at k Mill.wordList (.map []) 0 ⟨[],rfl⟩ rfl,Mill.typeOf_ba]
 congr 2
 simp only [Mill.wordList,List.foldl_cons,List.foldl_nil]
 by_cases h0:k=[98,111,111,108]
 ·subst h0;decide
 by_cases h1:k=[116,101,120,116]
 ·subst h1;decide
 by_cases h2:k=[117,56]
 ·subst h2;decide
 by_cases h3:k=[117,49,54]
 ·subst h3;decide
 by_cases h4:k=[117,51,50]
 ·subst h4;decide
 by_cases h5:k=[117,54,52]
 ·subst h5;decide
 by_cases h6:k=[105,56]
 ·subst h6;decide
 by_cases h7:k=[105,49,54]
 ·subst h7;decide
 by_cases h8:k=[105,51,50]
 ·subst h8;decide
 by_cases h9:k=[105,54,52]
 ·subst h9;decide
 have g0:¬ [98,111,111,108]=k:=fun e=>h0 e.symm
 have g1:¬ [116,101,120,116]=k:=fun e=>h1 e.symm
 have g2:¬ [117,56]=k:=fun e=>h2 e.symm
 have g3:¬ [117,49,54]=k:=fun e=>h3 e.symm
 have g4:¬ [117,51,50]=k:=fun e=>h4 e.symm
 have g5:¬ [117,54,52]=k:=fun e=>h5 e.symm
 have g6:¬ [105,56]=k:=fun e=>h6 e.symm
 have g7:¬ [105,49,54]=k:=fun e=>h7 e.symm
 have g8:¬ [105,51,50]=k:=fun e=>h8 e.symm
 have g9:¬ [105,54,52]=k:=fun e=>h9 e.symm
 simp only [if_neg h0,if_neg h1,if_neg h2,if_neg h3,if_neg h4,if_neg h5,if_neg h6,if_neg h7,if_neg h8,if_neg h9,if_neg g0,if_neg g1,if_neg g2,if_neg g3,if_neg g4,if_neg g5,if_neg g6,if_neg g7,if_neg g8,if_neg g9,ite_self]
open Go.RowKit
theorem Mill.high_no (r:Int) (h:128≤r):Mill.letter r=false∧Mill.digit r=false∧(r != 95)=true:=by
 refine ⟨?_, ?_, ?_⟩
 ·simp [Mill.letter];omega
 ·simp [Mill.digit];omega
 ·simp;omega
theorem Mill.tail_no (r:Int) (h:Mill.tail r=false):Mill.letter r=false∧Mill.digit r=false∧(r != 95)=true:=by
 simp [Mill.tail] at h;simp [h]
theorem wordSize_any (s:ByteArray) (w:World) (hs:s.size≤1048576) :
    Calls Tryz.prog 50 #[.string s] w fun e w'=>e = .returned (.int .i64 (Mill.wlen s 0:Int))∧Below w.heap.size w w':=by
  have hwl:=Mill.wlen_le s 0
  go_enter Tryz.func50,Tryz.ntmps50
  go_wp2
  go_loopw [3,4] (fun _ _ wr => ∃ pos:Nat,pos≤s.size∧pos - 0≤Mill.wlen s 0∧wr.heap[w.heap.size]? = some (.stringIter s pos)∧Below w.heap.size w wr) (fun _ _ wr=>s.size - wr.iterPos w.heap.size)
  case atStart=>exact ⟨0,by omega,by omega,World.iter_heap w s 0,(Below.refl _ _).alloc (Nat.le_refl _) _⟩
  case round =>
    obtain ⟨pos,hp0,hp1,hit,hbw⟩:=hrel
    have hpos0:=iterPos_of hit
    by_cases hp:pos < s.size
    · by_cases ha:s[pos].toNat < 128
      · have hnx:∀ ty,(Instr.next (.pointer (some ⟨w.heap.size,0,none⟩)) true ty).run Tryz.prog wr=_:=fun ty=>Lib.run_next_ascii_at wr w.heap.size s pos ty hit hp ha
        have hit2:=Lib.iterAt_heap wr w.heap.size s pos (pos+1) hit
        have hbw2:=Lib.below_iterAt hbw (k:=w.heap.size) (Nat.le_refl _) s (pos+1)
        cases ht:Mill.tail (s[pos].toNat:Int) with
        | true =>
          have hp2:=Mill.tail_step s 0 pos hp (by omega) hp1 ht
          obtain ⟨W1,hW1⟩:∃ W1,W1=wr.iterAt w.heap.size s (pos+1):=⟨_,rfl⟩
          rw [← hW1] at hnx hit2 hbw2
          clear hW1 hit hbw
          have ht2:=ht
          simp only [Mill.tail] at ht2
          cases h1:Mill.letter (s[pos].toNat:Int) <;> cases h2:Mill.digit (s[pos].toNat:Int) <;> cases h3:((s[pos].toNat:Int) != 95)
          all_goals try (exfalso;rw [h1,h2] at ht2;simp at ht2 h3;omega)
          all_goals
            clear ht2
            go_wp2_with (first
              | (go_at_call 30;refine (isLetter_any _ _).mono ?_;rintro e w' ⟨rfl,rfl⟩;rw [h1])
              | (go_at_call 32;refine (isDigit_any _ _).mono ?_;rintro e w' ⟨rfl,rfl⟩;rw [h2]))
            go_roundw
            case rel=>exact ⟨pos+1,by omega,hp2,hit2,hbw2⟩
            case measure=>rw [iterPos_of hit2,hpos0];omega
        | false =>
          have hst:=Mill.tail_stop s 0 pos (by omega) hp1 (fun _=>ht)
          obtain ⟨h1,h2,h3⟩:=Mill.tail_no _ ht
          have HW:Hid ((pos:Int)=(Mill.wlen s 0:Int)):=by rw [Hid];omega
          clear hst hp1 hwl
          obtain ⟨W1,hW1⟩:∃ W1,W1=wr.iterAt w.heap.size s (pos+1):=⟨_,rfl⟩
          rw [← hW1] at hnx hit2 hbw2
          clear hW1 hit hbw
          go_wp2_with (first
            | (go_at_call 30;refine (isLetter_any _ _).mono ?_;rintro e w' ⟨rfl,rfl⟩;rw [h1])
            | (go_at_call 32;refine (isDigit_any _ _).mono ?_;rintro e w' ⟨rfl,rfl⟩;rw [h2]))
          go_ret
          exact ⟨Mill.ret_int HW.out,hbw2⟩
      · have hnx:∀ ty,(Instr.next (.pointer (some ⟨w.heap.size,0,none⟩)) true ty).run Tryz.prog wr=_:=fun ty=>Lib.run_next_any_at wr w.heap.size s pos ty hit hp
        have hdh:=decode_high s pos hp (by omega)
        have hit2:=Lib.iterAt_heap wr w.heap.size s pos (pos+(Utf8.decode s pos).2) hit
        have hbw2:=Lib.below_iterAt hbw (k:=w.heap.size) (Nat.le_refl _) s (pos+(Utf8.decode s pos).2)
        have htf:Mill.tail (s[pos].toNat:Int)=false:=by simp [Mill.tail,Mill.letter,Mill.digit];omega
        have hst:=Mill.tail_stop s 0 pos (by omega) hp1 (fun _=>htf)
        obtain ⟨h1,h2,h3⟩:=Mill.high_no ((Utf8.decode s pos).1:Int) (by omega)
        have HW:Hid ((pos:Int)=(Mill.wlen s 0:Int)):=by rw [Hid];omega
        clear hst hp1 hwl htf hdh
        obtain ⟨W1,hW1⟩:∃ W1,W1=wr.iterAt w.heap.size s (pos+(Utf8.decode s pos).2):=⟨_,rfl⟩
        rw [← hW1] at hnx hit2 hbw2
        clear hW1 hit hbw
        generalize ((Utf8.decode s pos).1:Int)=r at *
        go_wp2_with (first
          | (go_at_call 30;refine (isLetter_any _ _).mono ?_;rintro e w' ⟨rfl,rfl⟩;rw [h1])
          | (go_at_call 32;refine (isDigit_any _ _).mono ?_;rintro e w' ⟨rfl,rfl⟩;rw [h2]))
        go_ret
        exact ⟨Mill.ret_int HW.out,hbw2⟩
    · have hnx:∀ ty,(Instr.next (.pointer (some ⟨w.heap.size,0,none⟩)) true ty).run Tryz.prog wr=_:=fun ty=>Lib.run_next_end_at wr w.heap.size s pos ty hit hp
      have hst:=Mill.tail_stop s 0 pos (by omega) hp1 (fun h=>absurd h hp)
      have HW:Hid ((s.size:Int)=(Mill.wlen s 0:Int)):=by rw [Hid];omega
      clear hst hp1 hwl
      go_wp2
      go_ret
      exact ⟨Mill.ret_int HW.out,hbw⟩
theorem digitsSize_any (s:ByteArray) (w:World) (hs:s.size≤1048576) :
    Calls Tryz.prog 52 #[.string s] w fun e w'=>e = .returned (.int .i64 (Mill.digLen s.data.toList:Int))∧Below w.heap.size w w':=by
  have hwl:=Mill.digLen_le s
  go_enter Tryz.func52,Tryz.ntmps52
  go_wp2
  go_loopw [3,4] (fun _ _ wr => ∃ pos:Nat,pos≤s.size∧pos≤Mill.digLen s.data.toList∧wr.heap[w.heap.size]? = some (.stringIter s pos)∧Below w.heap.size w wr) (fun _ _ wr=>s.size - wr.iterPos w.heap.size)
  case atStart=>exact ⟨0,by omega,by omega,World.iter_heap w s 0,(Below.refl _ _).alloc (Nat.le_refl _) _⟩
  case round =>
    obtain ⟨pos,hp0,hp1,hit,hbw⟩:=hrel
    have hpos0:=iterPos_of hit
    by_cases hp:pos < s.size
    · by_cases ha:s[pos].toNat < 128
      · have hnx:∀ ty,(Instr.next (.pointer (some ⟨w.heap.size,0,none⟩)) true ty).run Tryz.prog wr=_:=fun ty=>Lib.run_next_ascii_at wr w.heap.size s pos ty hit hp ha
        have hit2:=Lib.iterAt_heap wr w.heap.size s pos (pos+1) hit
        have hbw2:=Lib.below_iterAt hbw (k:=w.heap.size) (Nat.le_refl _) s (pos+1)
        cases ht:Mill.digit (s[pos].toNat:Int) with
        | true =>
          have hp2:=Mill.dig_step s pos hp hp1 ht
          obtain ⟨W1,hW1⟩:∃ W1,W1=wr.iterAt w.heap.size s (pos+1):=⟨_,rfl⟩
          rw [← hW1] at hnx hit2 hbw2
          clear hW1 hit hbw
          go_wp2_with (go_at_call 32;refine (isDigit_any _ _).mono ?_;rintro e w' ⟨rfl,rfl⟩;rw [ht])
          go_roundw
          case rel=>exact ⟨pos+1,by omega,hp2,hit2,hbw2⟩
          case measure=>rw [iterPos_of hit2,hpos0];omega
        | false =>
          have hst:=Mill.dig_stop s pos hp1 (fun _=>ht)
          have h2:=ht
          have HW:Hid ((pos:Int)=(Mill.digLen s.data.toList:Int)):=by rw [Hid];omega
          clear hst hp1 hwl
          obtain ⟨W1,hW1⟩:∃ W1,W1=wr.iterAt w.heap.size s (pos+1):=⟨_,rfl⟩
          rw [← hW1] at hnx hit2 hbw2
          clear hW1 hit hbw
          go_wp2_with (go_at_call 32;refine (isDigit_any _ _).mono ?_;rintro e w' ⟨rfl,rfl⟩;rw [h2])
          go_ret
          exact ⟨Mill.ret_int HW.out,hbw2⟩
      · have hnx:∀ ty,(Instr.next (.pointer (some ⟨w.heap.size,0,none⟩)) true ty).run Tryz.prog wr=_:=fun ty=>Lib.run_next_any_at wr w.heap.size s pos ty hit hp
        have hdh:=decode_high s pos hp (by omega)
        have hit2:=Lib.iterAt_heap wr w.heap.size s pos (pos+(Utf8.decode s pos).2) hit
        have hbw2:=Lib.below_iterAt hbw (k:=w.heap.size) (Nat.le_refl _) s (pos+(Utf8.decode s pos).2)
        have htf:Mill.digit (s[pos].toNat:Int)=false:=by simp [Mill.digit];omega
        have hst:=Mill.dig_stop s pos hp1 (fun _=>htf)
        obtain ⟨_,h2,_⟩:=Mill.high_no ((Utf8.decode s pos).1:Int) (by omega)
        have HW:Hid ((pos:Int)=(Mill.digLen s.data.toList:Int)):=by rw [Hid];omega
        clear hst hp1 hwl htf hdh
        obtain ⟨W1,hW1⟩:∃ W1,W1=wr.iterAt w.heap.size s (pos+(Utf8.decode s pos).2):=⟨_,rfl⟩
        rw [← hW1] at hnx hit2 hbw2
        clear hW1 hit hbw
        generalize ((Utf8.decode s pos).1:Int)=r at *
        go_wp2_with (go_at_call 32;refine (isDigit_any _ _).mono ?_;rintro e w' ⟨rfl,rfl⟩;rw [h2])
        go_ret
        exact ⟨Mill.ret_int HW.out,hbw2⟩
    · have hnx:∀ ty,(Instr.next (.pointer (some ⟨w.heap.size,0,none⟩)) true ty).run Tryz.prog wr=_:=fun ty=>Lib.run_next_end_at wr w.heap.size s pos ty hit hp
      have hst:=Mill.dig_stop s pos hp1 (fun h=>absurd h hp)
      have HW:Hid ((s.size:Int)=(Mill.digLen s.data.toList:Int)):=by rw [Hid];omega
      clear hst hp1 hwl
      go_wp2
      go_ret
      exact ⟨Mill.ret_int HW.out,hbw⟩
inductive Mill.Tr where
 | node:Mill.Nd→List Mill.Tr→Mill.Tr
def Mill.Tr.nd : Mill.Tr→Mill.Nd
 | .node d _=>d
def Mill.Tr.kids : Mill.Tr→List Mill.Tr
 | .node _ ks=>ks
mutual
def Mill.Tr.high : Mill.Tr→Nat
 | .node _ ks=>Mill.Tr.highs ks
def Mill.Tr.highs : List Mill.Tr→Nat
 | []=>0
 | t::r=>max (Mill.Tr.high t+1) (Mill.Tr.highs r)
end
theorem Mill.kind24 (k:Int) (h1:1≤k) (h2:k≤24):k=1∨k=2∨k=3∨k=4∨k=5∨k=6∨k=7∨k=8∨k=9∨k=10∨k=11∨k=12∨k=13∨k=14∨k=15∨k=16∨k=17∨k=18∨k=19∨k=20∨k=21∨k=22∨k=23∨k=24:=by omega
def Mill.takenN (d:Mill.Nd) (m:Nat):Mill.Nd:=⟨d.kind,if Mill.uOp d.kind then d.op else 0,if Mill.uType d.kind then d.type else 0,if d.kind=1 then d.n else if d.kind=3 then (if d.n=1 then 1 else 0) else 0,if Mill.uText d.kind then d.text else ⟨#[]⟩,(m:Int)⟩
def Mill.ndEq (a b:Mill.Nd):Bool:=(a.kind == b.kind) && (a.op == b.op) && (a.type == b.type) && (a.n == b.n) && (a.text.toList == b.text.toList) && (a.kids == b.kids)
def Mill.useR (d:Mill.Nd):Bool :=
 if d.kind=1 then decide (3≤d.type) && decide (d.type≤10) && decide (IntKind.u64.wrap d.n≤Mill.maxOf d.type)
 else if d.kind=2 then decide (d.text.size≤3000)
 else if d.kind=4∨d.kind=7∨d.kind=10∨d.kind=11 then Mill.nameOk d.text
 else if d.kind=5 then decide (1≤d.op) && decide (d.op≤3)
 else if d.kind=6 then decide (1≤d.op) && decide (d.op≤18)
 else if d.kind=8 then decide (1≤d.op) && decide (d.op≤12)
 else if d.kind=9 then decide (3≤d.type) && decide (d.type≤10)
 else if d.kind=22 then Mill.nameOk d.text && (decide (1≤d.type) && decide (d.type≤10))
 else if d.kind=23 then Mill.nameOk d.text && ((decide (1≤d.type) && decide (d.type≤10)) || (d.type == 0))
 else true
theorem Mill.fields_eq (d:Mill.Nd) (m:Nat) (h1:1≤d.kind) (h2:d.kind≤24) (hm:d.kids=(m:Int)):Mill.fields d=(Mill.useR d && Mill.ndEq d (Mill.takenN d m)):=by
 obtain ⟨c,o,t,y,x,k⟩:=d
 simp only at h1 h2 hm
 subst hm
 rcases Mill.kind24 c h1 h2 with rfl | rfl | rfl | rfl | rfl | rfl | rfl | rfl | rfl | rfl | rfl | rfl | rfl | rfl | rfl | rfl | rfl | rfl | rfl | rfl | rfl | rfl | rfl | rfl
 all_goals simp only [Mill.fields,Mill.unused,Mill.kindOk,Mill.useR,Mill.ndEq,Mill.takenN,Mill.uOp,Mill.uType,Mill.uN,Mill.uText,Mill.named]
 all_goals generalize Mill.nameOk x=nm
 all_goals rw [Bool.eq_iff_iff]
 all_goals simp
 all_goals grind
def Mill.stepOk (d:Mill.Nd) (st:List Mill.Tr):Bool:=decide (0≤d.kids) && decide (d.kids≤st.length) && Mill.useR d && Mill.fits d.kind d.op ((st.drop (st.length - d.kids.toNat)).map (fun t=>t.nd.kind)) && Mill.ndEq d (Mill.takenN d d.kids.toNat)
def Mill.growT : List Mill.Nd→List Mill.Tr→Option (List Mill.Tr)
 | [],st=>some st
 | d::r,st=>if Mill.stepOk d st=true then Mill.growT r (st.take (st.length - d.kids.toNat)++[.node d (st.drop (st.length - d.kids.toNat))]) else none
def Mill.rootOk (ns:List Mill.Nd):Bool:=decide (ns.length≤12001) && (match Mill.growT ns [] with | some [t]=>(t.nd.kind == 24) && decide (t.high≤60) | _=>false)
theorem Mill.fits24 (kd ko:Int) (ks:List Int) (h:Mill.fits kd ko ks=true):1≤kd∧kd≤24:=by
 by_cases h1:1≤kd∧kd≤24
 ·exact h1
 ·have hn:∀ m:Int,1≤m→m≤24→kd≠m:=fun m h3 h4=>by omega
  have:Mill.fits kd ko ks=false:=by simp [Mill.fits,hn]
  rw [this] at h;cases h
def Mill.noTr : Mill.Tr:=.node ⟨0,0,0,0,⟨#[]⟩,0⟩ []
def Mill.trAt (ts:List Mill.Tr) (k:Nat):Mill.Tr:=ts.getD k Mill.noTr
theorem Mill.trAt_app (ts us:List Mill.Tr) (k:Nat) (h:k < ts.length):Mill.trAt (ts++us) k=Mill.trAt ts k:=by
 simp [Mill.trAt,List.getElem?_append_left h]
theorem Mill.trAt_map (ts us:List Mill.Tr) (ks:List Nat) (h:∀ x ∈ ks,x < ts.length):ks.map (Mill.trAt (ts++us))=ks.map (Mill.trAt ts) :=
 List.map_congr_left (fun x hx=>Mill.trAt_app ts us x (h x hx))
theorem Mill.highs_mem (a:List Mill.Tr) (t:Mill.Tr) (h:t ∈ a):t.high+1≤Mill.Tr.highs a:=by
 induction a with
 | nil=>cases h
 | cons u r ih =>
  simp only [Mill.Tr.highs]
  rcases List.mem_cons.1 h with rfl | h
  ·omega
  ·have:=ih h;omega
theorem Mill.highOf_cons (hs ks:List Nat) (k:Nat):Mill.highOf hs (k::ks)=max (hs.getD k 0+1) (Mill.highOf hs ks):=by
 have:∀ (ks:List Nat) (a:Nat),ks.foldl (fun h k=>max h (hs.getD k 0+1)) a=max a (ks.foldl (fun h k=>max h (hs.getD k 0+1)) 0):=by
  intro ks
  induction ks with
  | nil=>intro a;simp
  | cons x r ih=>intro a;simp only [List.foldl_cons];rw [ih (max a _),ih (max 0 _)];omega
 unfold Mill.highOf
 simp only [List.foldl_cons]
 rw [this];omega
theorem Mill.highOf_trs (ts:List Mill.Tr) (ks:List Nat) (h:∀ x ∈ ks,x < ts.length):Mill.highOf (ts.map Mill.Tr.high) ks=Mill.Tr.highs (ks.map (Mill.trAt ts)):=by
 induction ks with
 | nil=>rfl
 | cons k r ih =>
  have hk:=h k (by simp)
  rw [Mill.highOf_cons,ih (fun x hx=>h x (by simp [hx]))]
  simp only [List.map_cons,Mill.Tr.highs]
  congr 2
  simp [Mill.trAt,hk]
theorem Mill.kidsOf_pre : ∀ (cs:List Int) (i:Nat) (opn:List Nat) (out K:List (List Nat)) (o:List Nat),Mill.kidsOf cs i opn out=some (K,o)→∃ q,K=out++q
 | [],i,opn,out,K,o,h=>by
  simp only [Mill.kidsOf,Option.some.injEq,Prod.mk.injEq] at h
  exact ⟨[],by simp [h.1]⟩
 | c::r,i,opn,out,K,o,h=>by
  rw [Mill.kidsOf] at h
  split at h
  ·obtain ⟨q,hq⟩:=Mill.kidsOf_pre r _ _ _ K o h
   exact ⟨_::q,by rw [hq,List.append_assoc];rfl⟩
  ·cases h
theorem Mill.step_node (d:Mill.Nd) (opn:List Nat) (ns:List Mill.Nd) (ts:List Mill.Tr) (i h:Nat) (hd:ns[i]? = some d) (h0:0≤d.kids∧d.kids≤opn.length) (hk:∀ x ∈ opn,Mill.kindAt ns x=(Mill.trAt ts x).nd.kind) :
  Mill.nodeOk ns i h (opn.drop (opn.length - d.kids.toNat))=(decide (h≤60) && Mill.stepOk d (opn.map (Mill.trAt ts))):=by
 have hkk:Mill.kindsOf ns (opn.drop (opn.length - d.kids.toNat))=((opn.map (Mill.trAt ts)).drop ((opn.map (Mill.trAt ts)).length - d.kids.toNat)).map (fun t=>t.nd.kind):=by
  rw [List.length_map,← List.map_drop,List.map_map]
  exact List.map_congr_left (fun x hx=>hk x (List.mem_of_mem_drop hx))
 unfold Mill.nodeOk Mill.stepOk
 rw [hd]
 simp only
 rw [hkk,List.length_map]
 simp only [h0.1,h0.2,decide_true,Bool.true_and]
 cases hf:Mill.fits d.kind d.op ((List.drop (opn.length - d.kids.toNat) (List.map (Mill.trAt ts) opn)).map (fun t=>t.nd.kind)) with
 | false=>simp
 | true =>
  obtain ⟨h1,h2⟩:=Mill.fits24 _ _ _ hf
  rw [Mill.fields_eq d d.kids.toNat h1 h2 (by omega)]
  simp only [Bool.and_true]
def Mill.Under (ts:List Mill.Tr) (opn:List Nat):Prop := ∀ t ∈ ts,∃ s ∈ opn.map (Mill.trAt ts),t.high≤s.high
theorem Mill.under_next (ts:List Mill.Tr) (opn:List Nat) (d:Mill.Nd) (p:Nat) (hx:∀ x ∈ opn,x < ts.length) (h:Mill.Under ts opn) :
  Mill.Under (ts++[.node d ((opn.drop p).map (Mill.trAt ts))]) (opn.take p++[ts.length]):=by
 intro t ht
 rw [List.map_append,Mill.trAt_map _ _ _ (fun x hx'=>hx x (List.mem_of_mem_take hx'))]
 have hlast:[ts.length].map (Mill.trAt (ts++[.node d ((opn.drop p).map (Mill.trAt ts))]))=[.node d ((opn.drop p).map (Mill.trAt ts))]:=by simp [Mill.trAt]
 rw [hlast]
 rcases List.mem_append.1 ht with ht | ht
 ·obtain ⟨s,hs,hh⟩:=h t ht
  rw [← List.take_append_drop p opn,List.map_append] at hs
  rcases List.mem_append.1 hs with hs | hs
  ·exact ⟨s,List.mem_append.2 (.inl hs),hh⟩
  ·refine ⟨_,List.mem_append.2 (.inr (List.mem_singleton.2 rfl)), ?_⟩
   have:=Mill.highs_mem _ _ hs
   rw [Mill.Tr.high];omega
 ·rw [List.mem_singleton] at ht
  exact ⟨t,List.mem_append.2 (.inr (by rw [ht];exact List.mem_singleton.2 rfl)),Nat.le_refl _⟩
theorem Mill.grow_kids (ns:List Mill.Nd):∀ (r:List Mill.Nd) (i:Nat) (opn:List Nat) (out:List (List Nat)) (ts:List Mill.Tr),ns.drop i=r→ts.length=i→(∀ x ∈ opn,x < i)→(∀ x,x < i→Mill.kindAt ns x=(Mill.trAt ts x).nd.kind)→Mill.Under ts opn →
    (∃ out' opn' ts',Mill.growT r (opn.map (Mill.trAt ts))=some (opn'.map (Mill.trAt (ts++ts')))∧Mill.kidsOf (r.map (·.kids)) i opn out=some (out++out',opn')∧ts'.length=r.length∧Mill.validL ns out' i (ts.map Mill.Tr.high)=ts'.all (fun t=>decide (t.high≤60))∧Mill.Under (ts++ts') opn'∧(∀ x,x < i+r.length→Mill.kindAt ns x=(Mill.trAt (ts++ts') x).nd.kind)∧(r=[]→opn'=opn)∧(r≠[]→∃ q,opn'=q++[i+r.length - 1]))
    ∨ (Mill.growT r (opn.map (Mill.trAt ts))=none∧∀ K o,Mill.kidsOf (r.map (·.kids)) i opn out=some (K,o)→∃ out',K=out++out'∧Mill.validL ns out' i (ts.map Mill.Tr.high)=false)
  | [],i,opn,out,ts,_,h1,h2,h3,h4=>by
    refine .inl ⟨[],opn,[],by simp [Mill.growT],by simp [Mill.kidsOf],rfl,rfl,by simpa using h4,by simpa using h3,fun _=>rfl,fun h=>absurd rfl h⟩
  | d::r,i,opn,out,ts,h0,h1,h2,h3,h4=>by
    have hd:ns[i]? = some d:=by
      have:=congrArg (fun l=>l[0]?) h0
      simpa using this
    have hr:ns.drop (i+1)=r:=by
      rw [← List.drop_drop,h0];rfl
    rw [List.map_cons,Mill.kidsOf,Mill.growT]
    by_cases hk:0≤d.kids∧d.kids≤opn.length
    · rw [if_pos hk]
      have hnode:=fun h=>Mill.step_node d opn ns ts i h hd hk (fun x hx=>h3 x (h2 x hx))
      have hst:(opn.map (Mill.trAt ts)).take ((opn.map (Mill.trAt ts)).length - d.kids.toNat)++[.node d ((opn.map (Mill.trAt ts)).drop ((opn.map (Mill.trAt ts)).length - d.kids.toNat))]=(opn.take (opn.length - d.kids.toNat)++[i]).map (Mill.trAt (ts++[.node d ((opn.drop (opn.length - d.kids.toNat)).map (Mill.trAt ts))])):=by
        rw [List.map_append,Mill.trAt_map _ _ _ (fun x hx=>by rw [h1];exact h2 x (List.mem_of_mem_take hx)),List.length_map,List.map_take,List.map_drop]
        congr 1
        simp [Mill.trAt,← h1]
      rw [hst]
      generalize hp:opn.length - d.kids.toNat=p at *
      have hH:Mill.highOf (ts.map Mill.Tr.high) (opn.drop p)=Mill.Tr.high (.node d ((opn.drop p).map (Mill.trAt ts))):=by
        rw [Mill.highOf_trs ts _ (fun x hx=>by rw [h1];exact h2 x (List.mem_of_mem_drop hx)),Mill.Tr.high]
      have hT:(Mill.Tr.node d ((opn.drop p).map (Mill.trAt ts))).nd=d:=rfl
      have hU:=Mill.under_next ts opn d p (fun x hx=>by rw [h1];exact h2 x hx) h4
      generalize hTT:Mill.Tr.node d ((opn.drop p).map (Mill.trAt ts))=T at *
      have hval:∀ q,Mill.validL ns (opn.drop p::q) i (ts.map Mill.Tr.high)=((decide (T.high≤60) && Mill.stepOk d (opn.map (Mill.trAt ts))) && Mill.validL ns q (i+1) ((ts++[T]).map Mill.Tr.high)):=by
        intro q
        rw [Mill.validL,hnode,hH,List.map_append];rfl
      have hk3:∀ x,x < i+1→Mill.kindAt ns x=(Mill.trAt (ts++[T]) x).nd.kind:=by
        intro x hx
        by_cases hxi:x < i
        · rw [Mill.trAt_app _ _ _ (by omega)];exact h3 x hxi
        · have:x=i:=by omega
          subst this
          have:Mill.trAt (ts++[T]) x=T:=by simp [Mill.trAt,← h1]
          rw [this,hT,Mill.kindAt,hd];rfl
      cases hs:Mill.stepOk d (opn.map (Mill.trAt ts)) with
      | false =>
        refine .inr ⟨by simp,fun K o hK => ?_⟩
        obtain ⟨q,rfl⟩:=Mill.kidsOf_pre _ _ _ _ _ _ hK
        refine ⟨opn.drop p::q,by simp, ?_⟩
        rw [hval,hs];simp
      | true =>
        rw [if_pos rfl]
        have ih:=Mill.grow_kids ns r (i+1) (opn.take p++[i]) (out++[opn.drop p]) (ts++[T]) hr (by simp [h1]) (by
          intro x hx
          rcases List.mem_append.1 hx with hx | hx
          · have:=h2 x (List.mem_of_mem_take hx);omega
          · rw [List.mem_singleton] at hx;omega) hk3 (by rw [← h1];exact hU)
        rcases ih with ⟨out',opn',ts',e1,e2,e3,e4,e5,e6,e7,e8⟩ | ⟨e1,e2⟩
        · refine .inl ⟨opn.drop p::out',opn',T::ts',by rw [e1];simp,by rw [e2];simp,by simp [e3], ?_,by simpa using e5, ?_,fun h=>by simp at h,fun _ => ?_⟩
          · rw [hval,hs,e4];simp
          · intro x hx
            have:=e6 x (by simp only [List.length_cons] at hx;omega)
            simpa using this
          · by_cases hr0:r=[]
            · subst hr0
              rw [e7 rfl]
              exact ⟨opn.take p,by simp⟩
            · obtain ⟨q,hq⟩:=e8 hr0
              exact ⟨q,by rw [hq];simp only [List.length_cons];congr 2;omega⟩
        · refine .inr ⟨e1,fun K o hK => ?_⟩
          obtain ⟨q,hq,hv⟩:=e2 K o hK
          refine ⟨opn.drop p::q,by rw [hq];simp, ?_⟩
          rw [hval,hv];simp
    · rw [if_neg hk]
      refine .inr ⟨?_,fun K o hK=>by cases hK⟩
      have:Mill.stepOk d (opn.map (Mill.trAt ts))=false:=by
        unfold Mill.stepOk
        rw [List.length_map]
        by_cases ha:0≤d.kids
        · have:¬ d.kids≤opn.length:=fun hb=>hk ⟨ha,hb⟩
          simp [this]
        · simp [ha]
      rw [this];simp
theorem Mill.valid_root (ns:List Mill.Nd):Mill.valid ns=Mill.rootOk ns:=by
 unfold Mill.valid Mill.rootOk Mill.kidsR
 by_cases hl:1≤ns.length∧ns.length≤12001
 ·rw [if_pos hl]
  have h:=Mill.grow_kids ns ns 0 [] [] [] rfl rfl (by simp) (by simp) (by intro t ht;cases ht)
  simp only [List.map_nil,List.nil_append,Nat.zero_add] at h
  rcases h with ⟨out',opn',ts',e1,e2,e3,e4,e5,e6,_,e8⟩ | ⟨e1,e2⟩
  ·rw [e1,e2]
   simp only [hl.2,decide_true,Bool.true_and]
   obtain ⟨q,hq⟩:=e8 (by intro h;rw [h] at hl;simp at hl)
   rw [e4]
   by_cases hq0:q=[]
   ·subst hq0
    simp only [List.nil_append] at hq
    subst hq
    have hkind:=e6 (ns.length - 1) (by omega)
    simp only [List.length_singleton,decide_true,Bool.true_and,List.map_cons,List.map_nil]
    rw [hkind,Bool.and_comm]
    congr 1
    have hmem:Mill.trAt ts' (ns.length - 1) ∈ ts':=by
     have:ns.length - 1 < ts'.length:=by omega
     simp [Mill.trAt,this]
    rw [Bool.eq_iff_iff]
    simp only [List.all_eq_true,decide_eq_true_eq]
    constructor
    ·intro h;exact h _ hmem
    ·intro h t ht
     obtain ⟨s,hs,hts⟩:=e5 t ht
     simp only [List.map_cons,List.map_nil,List.mem_singleton] at hs
     subst hs;omega
   ·have hlen:opn'.length≠1:=by
     rw [hq]
     cases q with
     | nil=>exact absurd rfl hq0
     | cons a b=>simp
    have hd:decide (opn'.length=1)=false:=by simp [hlen]
    simp only [hd,Bool.false_and]
    cases hm:opn'.map (Mill.trAt ts') with
    | nil=>rfl
    | cons a b =>
     cases b with
     | nil =>
      have:=congrArg List.length hm
      simp at this;omega
     | cons c e=>rfl
  ·rw [e1]
   cases hK:Mill.kidsOf (ns.map (·.kids)) 0 [] [] with
   | none=>simp
   | some r =>
    obtain ⟨K,o⟩:=r
    obtain ⟨q,rfl,hv⟩:=e2 K o hK
    simp [hv]
 ·rw [if_neg hl]
  by_cases h0:ns.length=0
  ·have:ns=[]:=List.length_eq_zero_iff.1 h0
   subst this
   simp [Mill.growT]
  ·have:¬ ns.length≤12001:=fun h=>hl ⟨by omega,h⟩
   simp [this]
end Go.Proofs.YtfoimmnlojjfbaaGreatDoor
