import Derived.Test.YtlcckaffhnjneaaGreatDoorKScanA
import Derived.Deep.QuietTactic
import Derived.BigQuiet
import Derived.Lib.Strings
set_option maxRecDepth 100000
set_option maxHeartbeats 2000000
namespace Go.Proofs.YtlcckaffhnjneaaGreatDoor
open Go.RowKit
structure Mill.Piece where
 kind:Int
 text:List UInt8
 type:Int
 n:Int
 size:Nat
 code:Int
def Mill.bad (c:Int):Mill.Piece:=⟨0,[],0,0,0,c⟩
def Mill.ba (l:List UInt8):ByteArray:=⟨l.toArray⟩
def Mill.isTail (c:UInt8):Bool:=Mill.tail (c.toNat:Int)
def Mill.wordOf (l:List UInt8):List UInt8:=l.takeWhile Mill.isTail
def Mill.markAt (l m:List UInt8):Bool:=decide (m.length≤l.length) && (l.take m.length == m)
def Mill.nameP (w:List UInt8):Mill.Piece:=if Mill.taken (Mill.ba w)=true then ⟨2,w,0,0,w.length,0⟩ else if 30 < w.length then Mill.bad 5 else ⟨1,w,0,0,w.length,0⟩
def Mill.intP (w:List UInt8):Mill.Piece:=match Mill.intRead (Mill.ba w) with
 | none=>Mill.bad 3
 | some (t,n)=>⟨3,[],t,wrap64 n,w.length,0⟩
def Mill.textP (l:List UInt8):Mill.Piece:=match Mill.unq l.tail [] with
 | none=>Mill.bad 4
 | some (t,r)=>if 3000 < t.length then Mill.bad 5 else ⟨4,t,0,0,l.length - r.length,0⟩
def Mill.markP (l:List UInt8):Mill.Piece:=match Mill.marks.find? (Mill.markAt l) with
 | some m=>⟨5,m,0,0,m.length,0⟩
 | none=>Mill.bad 2
def Mill.one (l:List UInt8):Mill.Piece:=match l with
 | []=>Mill.bad 2
 | b::_=>if Mill.letter (b.toNat:Int)=true then Mill.nameP (Mill.wordOf l) else if Mill.digit (b.toNat:Int)=true then Mill.intP (Mill.wordOf l) else if b=34 then Mill.textP l else Mill.markP l
def Mill.tokV (p:Mill.Piece) (at':Int):Value:=.agg #[.int .i64 p.kind,.string (Mill.ba p.text),.int .i64 p.type,.int .i64 p.n,.int .i64 at']
def Mill.oneVal (p:Mill.Piece) (at':Nat):Value :=
 if p.code=0 then .tuple #[Mill.tokV p at',.int .i64 ((at':Int)+(p.size:Int)),.int .i64 0] else .tuple #[Mill.tokV (Mill.bad 0) 0,.int .i64 (at':Int),.int .i64 p.code]
def Mill.marksCells : Array Value:=(Mill.marks.map Mill.strOf).toArray
theorem l1Marks_any (w:World) :
  Calls Tryz.prog 42 #[] w fun e w'=>e = .returned (.slice (some ⟨w.heap.size,0,none⟩) 28 28)∧w'=w.alloc (.cells Mill.marksCells 9):=by
 go_enter Tryz.func42,Tryz.ntmps42
 go_wp2
 go_ret
 exact ⟨rfl,rfl⟩
theorem Mill.bcell {W w1:World} (hb:Below W.heap.size W w1):(∀ b o,b < W.heap.size→w1.cell? ⟨b,o,none⟩=W.cell? ⟨b,o,none⟩)∧(∀ b o,b < W.heap.size→w1.frozen? ⟨b,o,none⟩=W.frozen? ⟨b,o,none⟩) :=
 ⟨fun b o h=>hb.cell (p:=⟨b,o,none⟩) h,fun b o h=>hb.frozen (p:=⟨b,o,none⟩) h⟩
theorem Mill.unq_len : ∀ (n:Nat) (l acc t r:List UInt8),l.length≤n→Mill.unq l acc=some (t,r)→r.length < l.length∧t.length≤acc.length+l.length
 | _,[],acc,t,r,_,h=>by simp [Mill.unq] at h
 | 0,c::l,acc,t,r,hn,h=>by simp at hn
 | n+1,c::l,acc,t,r,hn,h=>by
  rw [Mill.unq_def] at h
  by_cases h1:c=34
  ·rw [if_pos h1] at h;simp at h;obtain ⟨rfl,rfl⟩:=h;simp
  ·rw [if_neg h1] at h
   by_cases h2:Mill.isBare c=true
   ·rw [if_pos h2] at h
    have:=Mill.unq_len n l _ t r (by simpa using hn) h
    simp at this ⊢;omega
   ·rw [if_neg h2] at h
    by_cases h3:c=92
    ·rw [if_pos h3] at h
     match l,h,hn with
     | a::b::r2,h,hn =>
      simp only at h
      by_cases h4:0≤Mill.hexOf a∧0≤Mill.hexOf b
      ·rw [if_pos h4] at h
       have:=Mill.unq_len n r2 _ t r (by simp at hn;omega) h
       simp at this ⊢;omega
      ·rw [if_neg h4] at h;simp at h
    ·rw [if_neg h3] at h;simp at h
theorem Mill.below5 {w w1:World} (B:Nat) (hB:B≤w.heap.size) (o:Obj) (hb:Below (w.alloc o).heap.size (w.alloc o) w1) (c0 c1 c2 c3 c4:Value) :
  Below B w (((((w1.setCell ⟨w.heap.size,0,none⟩ c0).setCell ⟨w.heap.size,1,none⟩ c1).setCell ⟨w.heap.size,2,none⟩ c2).setCell ⟨w.heap.size,3,none⟩ c3).setCell ⟨w.heap.size,4,none⟩ c4) :=
 ((((((((Below.refl B w).alloc hB o).trans (hb.mono (by simp;omega))).setCell (p:=⟨w.heap.size,0,none⟩) hB _).setCell (p:=⟨w.heap.size,1,none⟩) hB _).setCell (p:=⟨w.heap.size,2,none⟩) hB _).setCell (p:=⟨w.heap.size,3,none⟩) hB _).setCell (p:=⟨w.heap.size,4,none⟩) hB _)
theorem l1One_quote (s:ByteArray) (at':Nat) (w:World) (hat:at' < s.size) (hs:s.size≤1048576)
  (h1:Mill.letter (s[at'].toNat:Int)=false) (h2:Mill.digit (s[at'].toNat:Int)=false) (h3:((s[at'].toNat:Int) == 34)=true) :
  Calls Tryz.prog 22 #[.string s,.int .i64 (at':Int)] w fun e w'=>e = .returned (Mill.oneVal (Mill.textP (s.data.toList.drop at')) at')∧Below w.heap.size w w':=by
 have hdrop:(s.data.toList.drop at').tail=s.data.toList.drop (at'+1):=by simp
 cases hu:Mill.unq (s.data.toList.drop (at'+1)) [] with
 | none =>
  have HP:Hid (Mill.oneVal (Mill.textP (s.data.toList.drop at')) at' = .tuple #[.agg #[.int .i64 0,.string ⟨#[]⟩,.int .i64 0,.int .i64 0,.int .i64 0],.int .i64 (at':Int),.int .i64 4]):=by rw [Hid,Mill.textP,hdrop,hu];rfl
  have HU:Hid (Mill.unqVal s at' = .tuple #[.string ⟨#[]⟩,.int .i64 (at':Int),.bool false]):=by rw [Hid,Mill.unqVal,hu]
  clear hu hdrop
  go_enter Tryz.func22,Tryz.ntmps22
  go_wp2_with (first
   | (go_at_call 36;refine (l1Letter_any _ _).mono ?_;rintro e w' ⟨rfl,rfl⟩;rw [h1])
   | (go_at_call 37;refine (l1Digit_any _ _).mono ?_;rintro e w' ⟨rfl,rfl⟩;rw [h2])
   | (go_at_call 41;refine (l1Unquote_any s at' _ hat hs).mono ?_;rintro e w1 ⟨rfl,hb⟩;rw [HU.out];obtain ⟨hc,hf⟩:=Mill.bcell hb;have hz:=hb.size;simp at hz))
  refine bodyPost_ret (v:=.tuple #[.agg #[.int .i64 0,.string ⟨#[]⟩,.int .i64 0,.int .i64 0,.int .i64 0],.int .i64 (at':Int),.int .i64 4]) (by simp [results,Tryz.results22,go_sem,hc]) rfl ⟨Mill.ret_val HP.out.symm,Mill.below5 _ (Nat.le_refl _) _ hb _ _ _ _ _⟩
 | some p =>
  obtain ⟨t,r⟩:=p
  have hl:=Mill.unq_len _ _ _ _ _ (Nat.le_refl _) hu
  simp at hl
  have hsr:s.size - r.length=at'+(s.size - at' - r.length):=by omega
  have HU:Hid (Mill.unqVal s at' = .tuple #[.string ⟨t.toArray⟩,.int .i64 ((s.size - r.length:Nat):Int),.bool true]):=by rw [Hid,Mill.unqVal,hu]
  have hts:(⟨t.toArray⟩:ByteArray).size=t.length:=rfl
  by_cases h30:3000 < t.length
  ·have HP:Hid (Mill.oneVal (Mill.textP (s.data.toList.drop at')) at' = .tuple #[.agg #[.int .i64 0,.string ⟨#[]⟩,.int .i64 0,.int .i64 0,.int .i64 0],.int .i64 (at':Int),.int .i64 5]):=by rw [Hid,Mill.textP,hdrop,hu];simp only [if_pos h30];rfl
   clear hu hdrop hsr
   generalize hT:(⟨t.toArray⟩:ByteArray)=T at *
   have h30':(3000:Int) < (T.size:Int):=by omega
   clear hT hts
   go_enter Tryz.func22,Tryz.ntmps22
   go_wp2_with (first
    | (go_at_call 36;refine (l1Letter_any _ _).mono ?_;rintro e w' ⟨rfl,rfl⟩;rw [h1])
    | (go_at_call 37;refine (l1Digit_any _ _).mono ?_;rintro e w' ⟨rfl,rfl⟩;rw [h2])
    | (go_at_call 41;refine (l1Unquote_any s at' _ hat hs).mono ?_;rintro e w1 ⟨rfl,hb⟩;rw [HU.out];obtain ⟨hc,hf⟩:=Mill.bcell hb;have hz:=hb.size;simp at hz))
   refine bodyPost_ret (v:=.tuple #[.agg #[.int .i64 0,.string ⟨#[]⟩,.int .i64 0,.int .i64 0,.int .i64 0],.int .i64 (at':Int),.int .i64 5]) (by simp [results,Tryz.results22,go_sem,hc]) rfl ⟨Mill.ret_val HP.out.symm,Mill.below5 _ (Nat.le_refl _) _ hb _ _ _ _ _⟩
  ·have HP:Hid (Mill.oneVal (Mill.textP (s.data.toList.drop at')) at' = .tuple #[.agg #[.int .i64 4,.string ⟨t.toArray⟩,.int .i64 0,.int .i64 0,.int .i64 (at':Int)],.int .i64 ((s.size - r.length:Nat):Int),.int .i64 0]):=by
    rw [Hid,Mill.textP,hdrop,hu,hsr];simp only [if_neg h30,Mill.oneVal,if_true,Mill.tokV,Mill.ba];simp
   clear hu hdrop hsr
   generalize hT:(⟨t.toArray⟩:ByteArray)=T at *
   have h30':(T.size:Int)≤(3000:Int):=by omega
   generalize ((s.size - r.length:Nat):Int)=E at *
   clear hT hts
   go_enter Tryz.func22,Tryz.ntmps22
   go_wp2_with (first
    | (go_at_call 36;refine (l1Letter_any _ _).mono ?_;rintro e w' ⟨rfl,rfl⟩;rw [h1])
    | (go_at_call 37;refine (l1Digit_any _ _).mono ?_;rintro e w' ⟨rfl,rfl⟩;rw [h2])
    | (go_at_call 41;refine (l1Unquote_any s at' _ hat hs).mono ?_;rintro e w1 ⟨rfl,hb⟩;rw [HU.out];obtain ⟨hc,hf⟩:=Mill.bcell hb;have hz:=hb.size;simp at hz))
   refine bodyPost_ret (v:=.tuple #[.agg #[.int .i64 4,.string T,.int .i64 0,.int .i64 0,.int .i64 (at':Int)],.int .i64 E,.int .i64 0]) (by simp [results,Tryz.results22,go_sem,hc]) rfl ⟨Mill.ret_val HP.out.symm,Mill.below5 _ (Nat.le_refl _) _ hb _ _ _ _ _⟩
def Mill.wlen (s:ByteArray) (a:Nat):Nat:=(Mill.wordOf (s.data.toList.drop a)).length
theorem Mill.wlen_le (s:ByteArray) (a:Nat):Mill.wlen s a≤s.size - a:=by
 have:=Mill.tw_le Mill.isTail (s.data.toList.drop a);simpa [Mill.wlen,Mill.wordOf] using this
theorem Mill.tail_step (s:ByteArray) (a k:Nat) (h:k < s.size) (ha:a≤k) (hk:k - a≤Mill.wlen s a) (ht:Mill.tail (s[k].toNat:Int)=true):k+1 - a≤Mill.wlen s a:=by
 have:=Mill.tw_step Mill.isTail (s.data.toList.drop a) (k - a) (by simp;omega) hk (by
  rw [List.getElem_drop]
  have e:a+(k - a)=k:=by omega
  simp only [e];exact ht)
 have e:k+1 - a=k - a+1:=by omega
 rw [e];exact this
theorem Mill.tail_stop (s:ByteArray) (a k:Nat) (ha:a≤k) (hk:k - a≤Mill.wlen s a) (ht:∀ h:k < s.size,Mill.tail (s[k].toNat:Int)=false):k - a=Mill.wlen s a :=
 Mill.tw_stop Mill.isTail (s.data.toList.drop a) (k - a) hk (fun h=>by
  rw [List.getElem_drop]
  have e:a+(k - a)=k:=by omega
  have hk:k < s.size:=by simp at h;omega
  simp only [e];exact ht hk)
theorem Mill.takeWhile_take {α:Type} (p:α→Bool):∀ l:List α,l.take (l.takeWhile p).length=l.takeWhile p
 | []=>rfl
 | a::r=>by
  cases h:p a with
  | false=>simp [h]
  | true=>simp [h,Mill.takeWhile_take p r]
theorem Mill.extract_ba (s:ByteArray) (a k:Nat):s.extract a k=Mill.ba ((s.data.toList.drop a).take (k - a)):=by
 have h:=Lib.extract_data s a k
 exact WideShapes.bytes_inj h
theorem Mill.word_ba (s:ByteArray) (a k:Nat) (hk:k - a=Mill.wlen s a):s.extract a k=Mill.ba (Mill.wordOf (s.data.toList.drop a)):=by
 rw [Mill.extract_ba,hk,Mill.wlen,Mill.wordOf,Mill.takeWhile_take]
theorem Mill.ba_size (l:List UInt8):(Mill.ba l).size=l.length:=rfl
/- CASES -/
theorem l1One_letter (s:ByteArray) (at':Nat) (w:World) (hat:at' < s.size) (hs:s.size≤1048576)
  (h1:Mill.letter (s[at'].toNat:Int)=true) :
  Calls Tryz.prog 22 #[.string s,.int .i64 (at':Int)] w fun e w'=>e = .returned (Mill.oneVal (Mill.nameP (Mill.wordOf (s.data.toList.drop at'))) at')∧Below w.heap.size w w':=by
 go_enter Tryz.func22,Tryz.ntmps22
 go_wp2_with (first | (go_at_call 36;refine (l1Letter_any _ _).mono ?_;rintro e w' ⟨rfl,rfl⟩;rw [h1]))
 go_loop [8] (fun t => ∃ k:Nat,at'≤k∧k≤s.size∧k - at'≤Mill.wlen s at'∧t = .int .i64 (k:Int)) (fun t=>s.size - (intOf t).toNat)
 case atStart=>exact ⟨at',by omega,by omega,by omega,rfl⟩
 case round =>
  obtain ⟨k,hk0,hks,hkw,rfl⟩:=hrel
  by_cases hgo:∃ h:k < s.size,Mill.tail (s[k].toNat:Int)=true
  ·obtain ⟨hlt,ht⟩:=hgo
   have hk1:=Mill.tail_step s at' k hlt hk0 hkw ht
   go_wp2_with (go_at_call 38;refine (l1Tail_any _ _).mono ?_;rintro e w' ⟨rfl,rfl⟩;rw [ht])
   go_round
   case rel=>exact ⟨k+1,by omega,by omega,hk1,by go_num⟩
   case measure=>simp [intOf];omega
  ·have hnt:∀ h:k < s.size,Mill.tail (s[k].toNat:Int)=false:=fun h=>by
    cases hc:Mill.tail (s[k].toNat:Int) with
    | true=>exact absurd ⟨h,hc⟩ hgo
    | false=>rfl
   have hkl:=Mill.tail_stop s at' k hk0 hkw hnt
   have HW:Hid (s.extract at' k=Mill.ba (Mill.wordOf (s.data.toList.drop at'))):=Mill.word_ba s at' k hkl
   have hwl:(Mill.wordOf (s.data.toList.drop at')).length=k - at':=hkl.symm
   clear hkl hgo hkw
   obtain ⟨W,HE⟩:∃ W,Hid (Mill.wordOf (s.data.toList.drop at')=W):=⟨_,rfl⟩
   rw [HE.out] at HW hwl
   have hsz:(Mill.ba W).size=k - at':=hwl
   have hba:Mill.ba W=⟨W.toArray⟩:=rfl
   cases htk:Mill.taken (Mill.ba W) with
   | true =>
    have HP:Hid (Mill.oneVal (Mill.nameP (Mill.wordOf (s.data.toList.drop at'))) at' = .tuple #[.agg #[.int .i64 2,.string (Mill.ba W),.int .i64 0,.int .i64 0,.int .i64 (at':Int)],.int .i64 (k:Int),.int .i64 0]):=by
     rw [Hid,HE.out,Mill.nameP,if_pos htk];simp only [Mill.oneVal,if_true,Mill.tokV];rw [hwl,show (at':Int)+((k - at':Nat):Int)=(k:Int) by omega]
    clear hwl hba
    generalize Mill.ba W=B at *
    clear hsz
    by_cases hlt:k < s.size
    ·have ht:=hnt hlt
     clear hnt
     go_wp2_with (first | (go_at_call 36;refine (l1Letter_any _ _).mono ?_;rintro e w' ⟨rfl,rfl⟩;rw [h1]) | (go_at_call 38;refine (l1Tail_any _ _).mono ?_;rintro e w' ⟨rfl,rfl⟩;rw [ht]) | (go_at_call 39;rw [HW.out];refine (l1Taken_any _ _).mono ?_;rintro e w1 ⟨rfl,hb⟩;rw [htk];obtain ⟨hc,hf⟩:=Mill.bcell hb;have hz:=hb.size;simp at hz))
     refine bodyPost_ret (v:=.tuple #[.agg #[.int .i64 2,.string B,.int .i64 0,.int .i64 0,.int .i64 (at':Int)],.int .i64 (k:Int),.int .i64 0]) (by simp [results,Tryz.results22,go_sem,hc]) rfl ⟨Mill.ret_val HP.out.symm,Mill.below5 _ (Nat.le_refl _) _ hb _ _ _ _ _⟩
    
    ·clear hnt
     go_wp2_with (first | (go_at_call 36;refine (l1Letter_any _ _).mono ?_;rintro e w' ⟨rfl,rfl⟩;rw [h1]) | (go_at_call 38;refine (l1Tail_any _ _).mono ?_;rintro e w' ⟨rfl,rfl⟩;rw [ht]) | (go_at_call 39;rw [HW.out];refine (l1Taken_any _ _).mono ?_;rintro e w1 ⟨rfl,hb⟩;rw [htk];obtain ⟨hc,hf⟩:=Mill.bcell hb;have hz:=hb.size;simp at hz))
     refine bodyPost_ret (v:=.tuple #[.agg #[.int .i64 2,.string B,.int .i64 0,.int .i64 0,.int .i64 (at':Int)],.int .i64 (k:Int),.int .i64 0]) (by simp [results,Tryz.results22,go_sem,hc]) rfl ⟨Mill.ret_val HP.out.symm,Mill.below5 _ (Nat.le_refl _) _ hb _ _ _ _ _⟩
   
   | false =>
    by_cases h30:30 < k - at'
    ·have HP:Hid (Mill.oneVal (Mill.nameP (Mill.wordOf (s.data.toList.drop at'))) at' = .tuple #[.agg #[.int .i64 0,.string ⟨#[]⟩,.int .i64 0,.int .i64 0,.int .i64 0],.int .i64 (at':Int),.int .i64 5]):=by
      rw [Hid,HE.out,Mill.nameP,if_neg (by simp [htk]),if_pos (by omega)];rfl
     have h30':(30:Int) < ((Mill.ba W).size:Int):=by omega
     clear hwl hba
     generalize Mill.ba W=B at *
     clear hsz
     by_cases hlt:k < s.size
     ·have ht:=hnt hlt
      clear hnt
      go_wp2_with (first | (go_at_call 36;refine (l1Letter_any _ _).mono ?_;rintro e w' ⟨rfl,rfl⟩;rw [h1]) | (go_at_call 38;refine (l1Tail_any _ _).mono ?_;rintro e w' ⟨rfl,rfl⟩;rw [ht]) | (go_at_call 39;rw [HW.out];refine (l1Taken_any _ _).mono ?_;rintro e w1 ⟨rfl,hb⟩;rw [htk];obtain ⟨hc,hf⟩:=Mill.bcell hb;have hz:=hb.size;simp at hz))
      refine bodyPost_ret (v:=.tuple #[.agg #[.int .i64 0,.string ⟨#[]⟩,.int .i64 0,.int .i64 0,.int .i64 0],.int .i64 (at':Int),.int .i64 5]) (by simp [results,Tryz.results22,go_sem,hc]) rfl ⟨Mill.ret_val HP.out.symm,Mill.below5 _ (Nat.le_refl _) _ hb _ _ _ _ _⟩
     
     ·clear hnt
      go_wp2_with (first | (go_at_call 36;refine (l1Letter_any _ _).mono ?_;rintro e w' ⟨rfl,rfl⟩;rw [h1]) | (go_at_call 38;refine (l1Tail_any _ _).mono ?_;rintro e w' ⟨rfl,rfl⟩;rw [ht]) | (go_at_call 39;rw [HW.out];refine (l1Taken_any _ _).mono ?_;rintro e w1 ⟨rfl,hb⟩;rw [htk];obtain ⟨hc,hf⟩:=Mill.bcell hb;have hz:=hb.size;simp at hz))
      refine bodyPost_ret (v:=.tuple #[.agg #[.int .i64 0,.string ⟨#[]⟩,.int .i64 0,.int .i64 0,.int .i64 0],.int .i64 (at':Int),.int .i64 5]) (by simp [results,Tryz.results22,go_sem,hc]) rfl ⟨Mill.ret_val HP.out.symm,Mill.below5 _ (Nat.le_refl _) _ hb _ _ _ _ _⟩
   
    ·have HP:Hid (Mill.oneVal (Mill.nameP (Mill.wordOf (s.data.toList.drop at'))) at' = .tuple #[.agg #[.int .i64 1,.string (Mill.ba W),.int .i64 0,.int .i64 0,.int .i64 (at':Int)],.int .i64 (k:Int),.int .i64 0]):=by
      rw [Hid,HE.out,Mill.nameP,if_neg (by simp [htk]),if_neg (by omega)];simp only [Mill.oneVal,if_true,Mill.tokV];rw [hwl,show (at':Int)+((k - at':Nat):Int)=(k:Int) by omega]
     have h30':((Mill.ba W).size:Int)≤(30:Int):=by omega
     clear hwl hba
     generalize Mill.ba W=B at *
     clear hsz
     by_cases hlt:k < s.size
     ·have ht:=hnt hlt
      clear hnt
      go_wp2_with (first | (go_at_call 36;refine (l1Letter_any _ _).mono ?_;rintro e w' ⟨rfl,rfl⟩;rw [h1]) | (go_at_call 38;refine (l1Tail_any _ _).mono ?_;rintro e w' ⟨rfl,rfl⟩;rw [ht]) | (go_at_call 39;rw [HW.out];refine (l1Taken_any _ _).mono ?_;rintro e w1 ⟨rfl,hb⟩;rw [htk];obtain ⟨hc,hf⟩:=Mill.bcell hb;have hz:=hb.size;simp at hz))
      refine bodyPost_ret (v:=.tuple #[.agg #[.int .i64 1,.string B,.int .i64 0,.int .i64 0,.int .i64 (at':Int)],.int .i64 (k:Int),.int .i64 0]) (by simp [results,Tryz.results22,go_sem,hc]) rfl ⟨Mill.ret_val HP.out.symm,Mill.below5 _ (Nat.le_refl _) _ hb _ _ _ _ _⟩
     
     ·clear hnt
      go_wp2_with (first | (go_at_call 36;refine (l1Letter_any _ _).mono ?_;rintro e w' ⟨rfl,rfl⟩;rw [h1]) | (go_at_call 38;refine (l1Tail_any _ _).mono ?_;rintro e w' ⟨rfl,rfl⟩;rw [ht]) | (go_at_call 39;rw [HW.out];refine (l1Taken_any _ _).mono ?_;rintro e w1 ⟨rfl,hb⟩;rw [htk];obtain ⟨hc,hf⟩:=Mill.bcell hb;have hz:=hb.size;simp at hz))
      refine bodyPost_ret (v:=.tuple #[.agg #[.int .i64 1,.string B,.int .i64 0,.int .i64 0,.int .i64 (at':Int)],.int .i64 (k:Int),.int .i64 0]) (by simp [results,Tryz.results22,go_sem,hc]) rfl ⟨Mill.ret_val HP.out.symm,Mill.below5 _ (Nat.le_refl _) _ hb _ _ _ _ _⟩
theorem l1One_digit (s:ByteArray) (at':Nat) (w:World) (hat:at' < s.size) (hs:s.size≤1048576)
  (h1:Mill.letter (s[at'].toNat:Int)=false) (h2:Mill.digit (s[at'].toNat:Int)=true) :
  Calls Tryz.prog 22 #[.string s,.int .i64 (at':Int)] w fun e w'=>e = .returned (Mill.oneVal (Mill.intP (Mill.wordOf (s.data.toList.drop at'))) at')∧Below w.heap.size w w':=by
 go_enter Tryz.func22,Tryz.ntmps22
 go_wp2_with (first | (go_at_call 36;refine (l1Letter_any _ _).mono ?_;rintro e w' ⟨rfl,rfl⟩;rw [h1]) | (go_at_call 37;refine (l1Digit_any _ _).mono ?_;rintro e w' ⟨rfl,rfl⟩;rw [h2]))
 go_loop [8] (fun t => ∃ k:Nat,at'≤k∧k≤s.size∧k - at'≤Mill.wlen s at'∧t = .int .i64 (k:Int)) (fun t=>s.size - (intOf t).toNat)
 case atStart=>exact ⟨at',by omega,by omega,by omega,rfl⟩
 case round =>
  obtain ⟨k,hk0,hks,hkw,rfl⟩:=hrel
  by_cases hgo:∃ h:k < s.size,Mill.tail (s[k].toNat:Int)=true
  ·obtain ⟨hlt,ht⟩:=hgo
   have hk1:=Mill.tail_step s at' k hlt hk0 hkw ht
   go_wp2_with (go_at_call 38;refine (l1Tail_any _ _).mono ?_;rintro e w' ⟨rfl,rfl⟩;rw [ht])
   go_round
   case rel=>exact ⟨k+1,by omega,by omega,hk1,by go_num⟩
   case measure=>simp [intOf];omega
  ·have hnt:∀ h:k < s.size,Mill.tail (s[k].toNat:Int)=false:=fun h=>by
    cases hc:Mill.tail (s[k].toNat:Int) with
    | true=>exact absurd ⟨h,hc⟩ hgo
    | false=>rfl
   have hkl:=Mill.tail_stop s at' k hk0 hkw hnt
   have HW:Hid (s.extract at' k=Mill.ba (Mill.wordOf (s.data.toList.drop at'))):=Mill.word_ba s at' k hkl
   have hwl:(Mill.wordOf (s.data.toList.drop at')).length=k - at':=hkl.symm
   clear hkl hgo hkw
   obtain ⟨W,HE⟩:∃ W,Hid (Mill.wordOf (s.data.toList.drop at')=W):=⟨_,rfl⟩
   rw [HE.out] at HW hwl
   have hsz:(Mill.ba W).size=k - at':=hwl
   have hba:Mill.ba W=⟨W.toArray⟩:=rfl
   have hmx:(Mill.ba W).size≤maxLen:=by unfold maxLen;omega
   have HI0:Hid (∃ o,Mill.intRead (Mill.ba W)=o∧Mill.intP W=(match o with | none=>Mill.bad 3 | some (t,n)=>⟨3,[],t,wrap64 n,W.length,0⟩)):=⟨_,rfl,rfl⟩
   obtain ⟨o,hio,hip⟩:=HI0.out
   clear HI0 hba
   cases o with
   | none =>
    have HP:Hid (Mill.oneVal (Mill.intP (Mill.wordOf (s.data.toList.drop at'))) at' = .tuple #[.agg #[.int .i64 0,.string ⟨#[]⟩,.int .i64 0,.int .i64 0,.int .i64 0],.int .i64 (at':Int),.int .i64 3]):=by rw [Hid,HE.out,hip];rfl
    have HI:Hid (Mill.intVal (Mill.intRead (Mill.ba W)) = .tuple #[.int .i64 0,.int .i64 0,.bool false]):=by rw [Hid,hio];rfl
    clear hio hip hwl
    generalize Mill.ba W=B at *
    clear hsz
    by_cases hlt:k < s.size
    ·have ht:=hnt hlt
     clear hnt
     go_wp2_with (first | (go_at_call 36;refine (l1Letter_any _ _).mono ?_;rintro e w' ⟨rfl,rfl⟩;rw [h1]) | (go_at_call 37;refine (l1Digit_any _ _).mono ?_;rintro e w' ⟨rfl,rfl⟩;rw [h2]) | (go_at_call 38;refine (l1Tail_any _ _).mono ?_;rintro e w' ⟨rfl,rfl⟩;rw [ht]) | (go_at_call 40;rw [HW.out];refine (l1Int_any _ _ hmx).mono ?_;rintro e w1 ⟨rfl,rfl⟩;rw [HI.out]))
     refine bodyPost_ret (v:=.tuple #[.agg #[.int .i64 0,.string ⟨#[]⟩,.int .i64 0,.int .i64 0,.int .i64 0],.int .i64 (at':Int),.int .i64 3]) (by simp [results,Tryz.results22,go_sem]) rfl ⟨Mill.ret_val HP.out.symm,((Below.refl _ w).alloc (Nat.le_refl _) _)⟩
    
    ·clear hnt
     go_wp2_with (first | (go_at_call 36;refine (l1Letter_any _ _).mono ?_;rintro e w' ⟨rfl,rfl⟩;rw [h1]) | (go_at_call 37;refine (l1Digit_any _ _).mono ?_;rintro e w' ⟨rfl,rfl⟩;rw [h2]) | (go_at_call 38;refine (l1Tail_any _ _).mono ?_;rintro e w' ⟨rfl,rfl⟩;rw [ht]) | (go_at_call 40;rw [HW.out];refine (l1Int_any _ _ hmx).mono ?_;rintro e w1 ⟨rfl,rfl⟩;rw [HI.out]))
     refine bodyPost_ret (v:=.tuple #[.agg #[.int .i64 0,.string ⟨#[]⟩,.int .i64 0,.int .i64 0,.int .i64 0],.int .i64 (at':Int),.int .i64 3]) (by simp [results,Tryz.results22,go_sem]) rfl ⟨Mill.ret_val HP.out.symm,((Below.refl _ w).alloc (Nat.le_refl _) _)⟩
   
   | some p =>
    obtain ⟨t,n⟩:=p
    have HP:Hid (Mill.oneVal (Mill.intP (Mill.wordOf (s.data.toList.drop at'))) at' = .tuple #[.agg #[.int .i64 3,.string ⟨#[]⟩,.int .i64 t,.int .i64 (wrap64 n),.int .i64 (at':Int)],.int .i64 (k:Int),.int .i64 0]):=by
     rw [Hid,HE.out,hip];simp only [Mill.oneVal,if_true,Mill.tokV];rw [hwl,show (at':Int)+((k - at':Nat):Int)=(k:Int) by omega];rfl
    have HI:Hid (Mill.intVal (Mill.intRead (Mill.ba W)) = .tuple #[.int .i64 t,.int .i64 (wrap64 n),.bool true]):=by rw [Hid,hio];rfl
    clear hio hip hwl
    generalize Mill.ba W=B at *
    generalize wrap64 n=m at *
    clear hsz
    by_cases hlt:k < s.size
    ·have ht:=hnt hlt
     clear hnt
     go_wp2_with (first | (go_at_call 36;refine (l1Letter_any _ _).mono ?_;rintro e w' ⟨rfl,rfl⟩;rw [h1]) | (go_at_call 37;refine (l1Digit_any _ _).mono ?_;rintro e w' ⟨rfl,rfl⟩;rw [h2]) | (go_at_call 38;refine (l1Tail_any _ _).mono ?_;rintro e w' ⟨rfl,rfl⟩;rw [ht]) | (go_at_call 40;rw [HW.out];refine (l1Int_any _ _ hmx).mono ?_;rintro e w1 ⟨rfl,rfl⟩;rw [HI.out]))
     refine bodyPost_ret (v:=.tuple #[.agg #[.int .i64 3,.string ⟨#[]⟩,.int .i64 t,.int .i64 m,.int .i64 (at':Int)],.int .i64 (k:Int),.int .i64 0]) (by simp [results,Tryz.results22,go_sem]) rfl ⟨Mill.ret_val HP.out.symm,((Below.refl _ w).alloc (Nat.le_refl _) _)⟩
    
    ·clear hnt
     go_wp2_with (first | (go_at_call 36;refine (l1Letter_any _ _).mono ?_;rintro e w' ⟨rfl,rfl⟩;rw [h1]) | (go_at_call 37;refine (l1Digit_any _ _).mono ?_;rintro e w' ⟨rfl,rfl⟩;rw [h2]) | (go_at_call 38;refine (l1Tail_any _ _).mono ?_;rintro e w' ⟨rfl,rfl⟩;rw [ht]) | (go_at_call 40;rw [HW.out];refine (l1Int_any _ _ hmx).mono ?_;rintro e w1 ⟨rfl,rfl⟩;rw [HI.out]))
     refine bodyPost_ret (v:=.tuple #[.agg #[.int .i64 3,.string ⟨#[]⟩,.int .i64 t,.int .i64 m,.int .i64 (at':Int)],.int .i64 (k:Int),.int .i64 0]) (by simp [results,Tryz.results22,go_sem]) rfl ⟨Mill.ret_val HP.out.symm,((Below.refl _ w).alloc (Nat.le_refl _) _)⟩
theorem Mill.marks_cell (w:World) (k:Nat) (p:List UInt8) (h:Mill.marks[k]? = some p):(w.alloc (.cells Mill.marksCells 9)).cell? ⟨w.heap.size,k,none⟩=some (Mill.strOf p):=by
 rw [cell_of_row _ _ _ Mill.marksCells 9 (0,0) (heap_alloc_new w _)]
 simp [Mill.marksCells,h]
theorem Mill.mark_no (s:ByteArray) (at':Nat) (m:List UInt8) (hat:at' < s.size) (h:¬ at'+m.length≤s.size):Mill.markAt (s.data.toList.drop at') m=false:=by
 simp [Mill.markAt];intro h2;omega
theorem Mill.mark_eq (s:ByteArray) (at':Nat) (m:List UInt8) (h:at'+m.length≤s.size):Mill.markAt (s.data.toList.drop at') m=((s.extract at' (at'+m.length)).toList == m):=by
 rw [ByteArray.toList_eq,Lib.extract_data,show at'+m.length - at'=m.length by omega]
 simp [Mill.markAt];omega
theorem Mill.mark_len (k:Nat) (m:List UInt8) (h:Mill.marks[k]? = some m):m.length≤2:=by
 have hm:=List.mem_of_getElem? h
 have:∀ x ∈ Mill.marks,x.length≤2:=by decide
 exact this m hm
theorem l1One_mark (s:ByteArray) (at':Nat) (w:World) (hat:at' < s.size) (hs:s.size≤1048576)
  (h1:Mill.letter (s[at'].toNat:Int)=false) (h2:Mill.digit (s[at'].toNat:Int)=false) (h3:((s[at'].toNat:Int) == 34)=false) :
  Calls Tryz.prog 22 #[.string s,.int .i64 (at':Int)] w fun e w'=>e = .returned (Mill.oneVal (Mill.markP (s.data.toList.drop at')) at')∧Below w.heap.size w w':=by
 go_enter Tryz.func22,Tryz.ntmps22
 go_wp2_with (first
  | (go_at_call 36;refine (l1Letter_any _ _).mono ?_;rintro e w' ⟨rfl,rfl⟩;rw [h1])
  | (go_at_call 37;refine (l1Digit_any _ _).mono ?_;rintro e w' ⟨rfl,rfl⟩;rw [h2])
  | (go_at_call 42;refine (l1Marks_any _).mono ?_;rintro e w' ⟨rfl,rfl⟩))
 have hcell:=fun k p=>Mill.marks_cell (w.alloc (.cells #[.int .i64 0,.string ByteArray.empty,.int .i64 0,.int .i64 0,.int .i64 0] 41)) k p
 simp only [World.size_alloc] at hcell
 go_loopw [17,18] (fun t _ wr => ∃ k nq:Nat,k≤28∧t = .int .i64 (k:Int)∧(Mill.marks.drop k).find? (Mill.markAt (s.data.toList.drop at'))=Mill.marks.find? (Mill.markAt (s.data.toList.drop at'))∧wr=(((w.alloc (.cells #[.int .i64 0,.string ByteArray.empty,.int .i64 0,.int .i64 0,.int .i64 0] 41)).alloc (.cells Mill.marksCells 9)).drewN nq)) (fun t _ _=>28 - (intOf t).toNat)
 case atStart=>exact ⟨0,0,by omega,rfl,rfl,rfl⟩
 case round =>
  obtain ⟨k,nq,hk,rfl,hf,rfl⟩:=hrel
  by_cases hlt:k < 28
  ·have hlt2:k < Mill.marks.length:=hlt
   have hp:Mill.marks[k]? = some Mill.marks[k]:=List.getElem?_eq_getElem hlt2
   have hd:Mill.marks.drop k=Mill.marks[k]::Mill.marks.drop (k+1):=List.drop_eq_getElem_cons hlt2
   generalize Mill.marks[k]=m at *
   have hcl:=hcell k m hp
   clear hcell
   rw [hd,List.find?_cons] at hf
   obtain ⟨M,hM⟩:∃ M:ByteArray,M=⟨m.toArray⟩:=⟨_,rfl⟩
   have hMl:M.toList=m:=by rw [hM,ByteArray.toList_eq]
   have hMs:M.size=m.length:=by rw [hM];rfl
   have hml:m.length≤2:=Mill.mark_len k m hp
   rw [Mill.strOf,← hM] at hcl
   by_cases hin:at'+m.length≤s.size
   ·have hg:decide ((at':Int)+(m.length:Int)≤(s.size:Int))=true:=by simp;omega
    have hg2:(at':Int)+(m.length:Int)≤(s.size:Int):=by omega
    have hg3:(at':Int)≤(at':Int)+(m.length:Int):=by omega
    have hw:IntKind.i64.wrap ((at':Int)+(m.length:Int))=(at':Int)+(m.length:Int):=wrap_small _ (by omega) (by omega)
    have hn:((at':Int)+(m.length:Int)).toNat=at'+m.length:=by omega
    have hme:=Mill.mark_eq s at' m hin
    rw [← hMl,hMl] at hme
    cases hb:((s.extract at' (at'+m.length)).toList == M.toList) with
    | true =>
     have HP:Hid (Mill.oneVal (Mill.markP (s.data.toList.drop at')) at' = .tuple #[.agg #[.int .i64 5,.string M,.int .i64 0,.int .i64 0,.int .i64 (at':Int)],.int .i64 ((at':Int)+(m.length:Int)),.int .i64 0]):=by
      rw [hMl] at hb
      rw [hme,hb] at hf
      rw [Hid,Mill.markP,← hf,hM];rfl
     clear hf hd hMl hM hp hme
     go_wp2_with fail
     go_quiet (fail)
     go_wp2
     refine bodyPost_ret (v:=.tuple #[.agg #[.int .i64 5,.string M,.int .i64 0,.int .i64 0,.int .i64 (at':Int)],.int .i64 ((at':Int)+(m.length:Int)),.int .i64 0]) (by simp [results,Tryz.results22,go_sem]) rfl ⟨Mill.ret_val HP.out.symm,Mill.below5 _ (Nat.le_refl _) _ (below_drewN ((Below.refl _ _).alloc (Nat.le_refl _) _) _) _ _ _ _ _⟩
    | false =>
     have HF:Hid ((Mill.marks.drop (k+1)).find? (Mill.markAt (s.data.toList.drop at'))=Mill.marks.find? (Mill.markAt (s.data.toList.drop at'))):=by
      rw [hMl] at hb
      rw [hme,hb] at hf;exact hf
     clear hf hd hMl hM hp hme
     go_wp2_with fail
     go_quiet (fail)
     go_wp2
     go_roundw
     case rel=>exact ⟨k+1,_,by omega,by go_num,HF.out,rfl⟩
     case measure=>simp [intOf];omega
   ·have HF:Hid ((Mill.marks.drop (k+1)).find? (Mill.markAt (s.data.toList.drop at'))=Mill.marks.find? (Mill.markAt (s.data.toList.drop at'))):=by rw [Mill.mark_no s at' m hat hin] at hf;exact hf
    have hg:decide ((at':Int)+(m.length:Int)≤(s.size:Int))=false:=by simp;omega
    have hw:IntKind.i64.wrap ((at':Int)+(m.length:Int))=(at':Int)+(m.length:Int):=wrap_small _ (by omega) (by omega)
    clear hf hd hMl hM hp
    go_wp2_with fail
    go_quiet (fail)
    go_wp2
    go_roundw
    case rel=>exact ⟨k+1,_,by omega,by go_num,HF.out,rfl⟩
    case measure=>simp [intOf];omega
  ·have h0:k=28:=by omega
   subst h0
   have HP:Hid (Mill.oneVal (Mill.markP (s.data.toList.drop at')) at' = .tuple #[.agg #[.int .i64 0,.string ⟨#[]⟩,.int .i64 0,.int .i64 0,.int .i64 0],.int .i64 (at':Int),.int .i64 2]):=by
    rw [Hid,Mill.markP,← hf];rfl
   clear hf hcell
   go_wp2
   refine bodyPost_ret (v:=.tuple #[.agg #[.int .i64 0,.string ⟨#[]⟩,.int .i64 0,.int .i64 0,.int .i64 0],.int .i64 (at':Int),.int .i64 2]) (by simp [results,Tryz.results22,go_sem]) rfl ⟨Mill.ret_val HP.out.symm,Mill.below5 _ (Nat.le_refl _) _ (below_drewN ((Below.refl _ _).alloc (Nat.le_refl _) _) _) _ _ _ _ _⟩
theorem l1One_any (s:ByteArray) (at':Nat) (w:World) (hat:at' < s.size) (hs:s.size≤1048576) :
  Calls Tryz.prog 22 #[.string s,.int .i64 (at':Int)] w fun e w'=>e = .returned (Mill.oneVal (Mill.one (s.data.toList.drop at')) at')∧Below w.heap.size w w':=by
 have hd:=Mill.drop_cons s at' hat
 cases h1:Mill.letter (s[at'].toNat:Int) with
 | true =>
  have e:Mill.one (s.data.toList.drop at')=Mill.nameP (Mill.wordOf (s.data.toList.drop at')):=by rw [hd,Mill.one,if_pos h1]
  rw [e];exact l1One_letter s at' w hat hs h1
 | false =>
  cases h2:Mill.digit (s[at'].toNat:Int) with
  | true =>
   have e:Mill.one (s.data.toList.drop at')=Mill.intP (Mill.wordOf (s.data.toList.drop at')):=by rw [hd,Mill.one,if_neg (by simp [h1]),if_pos h2]
   rw [e];exact l1One_digit s at' w hat hs h1 h2
  | false =>
   cases h3:((s[at'].toNat:Int) == 34) with
   | true =>
    have e:Mill.one (s.data.toList.drop at')=Mill.textP (s.data.toList.drop at'):=by rw [hd,Mill.one,if_neg (by simp [h1]),if_neg (by simp [h2]),if_pos (Mill.byte_eq _ 34 h3)]
    rw [e];exact l1One_quote s at' w hat hs h1 h2 h3
   | false =>
    have e:Mill.one (s.data.toList.drop at')=Mill.markP (s.data.toList.drop at'):=by rw [hd,Mill.one,if_neg (by simp [h1]),if_neg (by simp [h2]),if_neg (Mill.byte_ne _ 34 h3)]
    rw [e];exact l1One_mark s at' w hat hs h1 h2 h3
theorem Mill.word_pos (b:UInt8) (r:List UInt8) (h:Mill.isTail b=true):1≤(Mill.wordOf (b::r)).length:=by simp [Mill.wordOf,h]
theorem Mill.word_le (l:List UInt8):(Mill.wordOf l).length≤l.length:=Mill.tw_le _ _
theorem Mill.mark_pos (m:List UInt8) (h:m ∈ Mill.marks):1≤m.length:=by
 have:∀ x ∈ Mill.marks,1≤x.length:=by decide
 exact this m h
theorem Mill.one_size (b:UInt8) (r:List UInt8) (h0:(Mill.one (b::r)).code=0):1≤(Mill.one (b::r)).size∧(Mill.one (b::r)).size≤(b::r).length:=by
 revert h0
 simp only [Mill.one]
 by_cases h1:Mill.letter (b.toNat:Int)=true
 ·rw [if_pos h1]
  have hp:=Mill.word_pos b r (by simp [Mill.isTail,Mill.tail,h1])
  have hl:=Mill.word_le (b::r)
  intro h0
  unfold Mill.nameP at h0 ⊢
  split
  ·exact ⟨hp,hl⟩
  ·split
   ·rename_i h2 h3;rw [if_neg h2,if_pos h3] at h0;simp [Mill.bad] at h0
   ·exact ⟨hp,hl⟩
 ·rw [if_neg h1]
  by_cases h2:Mill.digit (b.toNat:Int)=true
  ·rw [if_pos h2]
   have hp:=Mill.word_pos b r (by simp [Mill.isTail,Mill.tail,h2])
   have hl:=Mill.word_le (b::r)
   intro h0
   unfold Mill.intP at h0 ⊢
   split
   ·rename_i h;rw [h] at h0;simp [Mill.bad] at h0
   ·exact ⟨hp,hl⟩
  ·rw [if_neg h2]
   by_cases h3:b=34
   ·rw [if_pos h3]
    intro h0
    unfold Mill.textP at h0 ⊢
    split
    ·rename_i h;rw [h] at h0;simp [Mill.bad] at h0
    ·rename_i t r2 h
     rw [h] at h0
     have:=Mill.unq_len _ _ _ _ _ (Nat.le_refl _) h
     simp at this
     split
     ·rename_i h4;simp only [if_pos h4] at h0;simp [Mill.bad] at h0
     ·simp;omega
   ·rw [if_neg h3]
    intro h0
    unfold Mill.markP at h0 ⊢
    split
    ·rename_i m h
     have hm:=List.mem_of_find?_eq_some h
     have hq:=List.find?_some h
     have:=Mill.mark_pos m hm
     simp [Mill.markAt] at hq
     simp;omega
    ·rename_i h;rw [h] at h0;simp [Mill.bad] at h0
def Mill.notNl (c:UInt8):Bool:=c != 10
def Mill.rem (l:List UInt8):Nat:=(l.takeWhile Mill.notNl).length
def Mill.scanL : Nat→List UInt8→Nat→List (Mill.Piece × Nat)→List (Mill.Piece × Nat) × Int × Nat
 | 0,_,_,acc=>(acc,0,0)
 | _+1,[],_,acc=>(acc,0,0)
 | f+1,b::r,i,acc=>if b=32∨b=10 then Mill.scanL f r (i+1) acc
   else if b=35 then Mill.scanL f ((b::r).drop (Mill.rem (b::r))) (i+Mill.rem (b::r)) acc
   else if (Mill.one (b::r)).code≠0 then ([],(Mill.one (b::r)).code,i)
   else Mill.scanL f ((b::r).drop (Mill.one (b::r)).size) (i+(Mill.one (b::r)).size) (acc++[(Mill.one (b::r),i)])
def Mill.scan (s:ByteArray):List (Mill.Piece × Nat) × Int × Nat:=if 12000 < s.size then ([],1,0) else Mill.scanL (s.size+1) s.data.toList 0 []
def Mill.tokC (t:Mill.Piece × Nat):List Value:=[.int .i64 t.1.kind,.string (Mill.ba t.1.text),.int .i64 t.1.type,.int .i64 t.1.n,.int .i64 (t.2:Int)]
def Mill.tokCs (ts:List (Mill.Piece × Nat)):List Value:=ts.flatMap Mill.tokC
theorem Mill.tokCs_snoc (ts:List (Mill.Piece × Nat)) (t:Mill.Piece × Nat):Mill.tokCs (ts++[t])=Mill.tokCs ts++Mill.tokC t:=by simp [Mill.tokCs]
def Mill.faultV (c:Int) (a:Nat):Value:=.agg #[.int .i64 c,.int .i64 (a:Int)]
theorem Mill.own_below {W W':World} {B e size n:Nat} {v:Value} {xs:List Value} (h:W.ownsRow B e size v n xs) (hb:Below W.heap.size W W'):W'.ownsRow B e size v n xs:=by
 refine ⟨h.1, ?_⟩
 rcases h.2 with hn | ⟨g,cap,cur,hv,hg,hgg,rest⟩
 ·exact .inl hn
 ·exact .inr ⟨g,cap,cur,hv,hg,by rw [hb.block g (Array.getElem?_eq_some_iff.1 hgg).1];exact hgg,rest⟩
theorem Mill.cell_new (w:World) (cs:Array Value) (t:TypeId) (j:Nat) (u:Value) (h:cs.toList[j]? = some u):(w.alloc (.cells cs t)).cell? ((⟨w.heap.size,0,none⟩:Addr).add j)=some u:=by
 have hadd:(⟨w.heap.size,0,none⟩:Addr).add j=⟨w.heap.size,j,none⟩:=by unfold Addr.add;split <;> simp_all
 rw [hadd,cell_of_row _ _ _ cs t (0,0) (heap_alloc_new w _)]
 simpa using h
theorem Tryz.infoTok : (Tryz.prog.info? 41).map (fun i=>(i.zero,i.size,i.bytes))=some (some (.agg #[.int .i64 0,.string ByteArray.empty,.int .i64 0,.int .i64 0,.int .i64 0]),5,48):=by kernel_rfl
theorem Mill.scanL_gap (f i:Nat) (b:UInt8) (r:List UInt8) (acc:List (Mill.Piece × Nat)) (h:b=32∨b=10):Mill.scanL (f+1) (b::r) i acc=Mill.scanL f r (i+1) acc:=by rw [Mill.scanL,if_pos h]
theorem Mill.scanL_rem (f i:Nat) (b:UInt8) (r:List UInt8) (acc:List (Mill.Piece × Nat)) (h:¬ (b=32∨b=10)) (h2:b=35):Mill.scanL (f+1) (b::r) i acc=Mill.scanL f ((b::r).drop (Mill.rem (b::r))) (i+Mill.rem (b::r)) acc:=by rw [Mill.scanL,if_neg h,if_pos h2]
theorem Mill.scanL_bad (f i:Nat) (b:UInt8) (r:List UInt8) (acc:List (Mill.Piece × Nat)) (h:¬ (b=32∨b=10)) (h2:b≠35) (h3:(Mill.one (b::r)).code≠0):Mill.scanL (f+1) (b::r) i acc=([],(Mill.one (b::r)).code,i):=by rw [Mill.scanL,if_neg h,if_neg h2,if_pos h3]
theorem Mill.scanL_tok (f i:Nat) (b:UInt8) (r:List UInt8) (acc:List (Mill.Piece × Nat)) (h:¬ (b=32∨b=10)) (h2:b≠35) (h3:(Mill.one (b::r)).code=0):Mill.scanL (f+1) (b::r) i acc=Mill.scanL f ((b::r).drop (Mill.one (b::r)).size) (i+(Mill.one (b::r)).size) (acc++[(Mill.one (b::r),i)]):=by rw [Mill.scanL,if_neg h,if_neg h2,if_neg (by simpa using h3)]
theorem Mill.scanL_nil (f i:Nat) (acc:List (Mill.Piece × Nat)):Mill.scanL f [] i acc=(acc,0,0):=by cases f <;> rfl
def Mill.remN (s:ByteArray) (a:Nat):Nat:=Mill.rem (s.data.toList.drop a)
theorem Mill.remN_le (s:ByteArray) (a:Nat):Mill.remN s a≤s.size - a:=by
 have:=Mill.tw_le Mill.notNl (s.data.toList.drop a);simpa [Mill.remN,Mill.rem] using this
theorem Mill.rem_step (s:ByteArray) (a k:Nat) (h:k < s.size) (ha:a≤k) (hk:k - a≤Mill.remN s a) (ht:((s[k].toNat:Int) != 10)=true):k+1 - a≤Mill.remN s a:=by
 have:=Mill.tw_step Mill.notNl (s.data.toList.drop a) (k - a) (by simp;omega) hk (by
  rw [List.getElem_drop]
  have e:a+(k - a)=k:=by omega
  simp only [e]
  have hne:=Mill.byte_ne s[k] 10 (by simpa [bne] using ht)
  simp [Mill.notNl];exact hne)
 have e:k+1 - a=k - a+1:=by omega
 rw [e];exact this
theorem Mill.rem_stop (s:ByteArray) (a k:Nat) (ha:a≤k) (hk:k - a≤Mill.remN s a) (ht:∀ h:k < s.size,((s[k].toNat:Int) != 10)=false):k - a=Mill.remN s a :=
 Mill.tw_stop Mill.notNl (s.data.toList.drop a) (k - a) hk (fun h=>by
  rw [List.getElem_drop]
  have e:a+(k - a)=k:=by omega
  have hk:k < s.size:=by simp at h;omega
  simp only [e]
  have heq:=Mill.byte_eq s[k] 10 (by simpa [bne] using ht hk)
  simp [Mill.notNl];exact heq)
def Mill.ScanPost (w:World) (r:List (Mill.Piece × Nat) × Int × Nat) (e:Ending) (w':World):Prop :=
 ∃ v,e = .returned (.tuple #[v,Mill.faultV r.2.1 r.2.2])∧w'.ownsRow w.heap.size 41 5 v r.1.length (Mill.tokCs r.1)∧Below w.heap.size w w'
theorem specScan_long (s:ByteArray) (w:World) (hl:12000 < s.size) :
  Calls Tryz.prog 10 #[.string s] w fun e w'=>Mill.ScanPost w (Mill.scan s) e w':=by
 have HS:Hid (Mill.scan s=([],1,0)):=by rw [Hid,Mill.scan,if_pos hl]
 have hl':(12000:Int) < (s.size:Int):=by omega
 go_enter Tryz.func10,Tryz.ntmps10
 go_wp2
 refine bodyPost_ret (v:=.tuple #[.slice (some ⟨w.heap.size+1,0,none⟩) 0 0,.agg #[.int .i64 1,.int .i64 0]]) (by simp [results,Tryz.results10,go_sem]) rfl ?_
 rw [HS.out]
 exact ⟨_,rfl,by
  have h:=World.ownsRow_made (base:=w.heap.size) (e:=41) (size:=5) (w.alloc (.cells #[.int .i64 1,.int .i64 0] 26)) #[] 0 (by simp) (by decide) rfl
  simpa [Mill.tokCs] using h,((Below.refl _ w).alloc (Nat.le_refl _) _).alloc (by simp) _⟩
theorem Mill.fault_cells {w wr:World} (hb:Below (w.heap.size+1) (w.alloc (.cells #[.int .i64 0,.int .i64 0] 26)) wr) :
  wr.cell? ⟨w.heap.size,0,none⟩=some (.int .i64 0)∧wr.cell? ⟨w.heap.size,1,none⟩=some (.int .i64 0)∧wr.frozen? ⟨w.heap.size,0,none⟩=false∧wr.frozen? ⟨w.heap.size,1,none⟩=false∧w.heap.size < wr.heap.size:=by
 refine ⟨?_, ?_, ?_, ?_, ?_⟩
 ·rw [hb.cell (p:=⟨w.heap.size,0,none⟩) (by simp)];simp [go_sem]
 ·rw [hb.cell (p:=⟨w.heap.size,1,none⟩) (by simp)];simp [go_sem]
 ·rw [hb.frozen (p:=⟨w.heap.size,0,none⟩) (by simp)];simp [go_sem]
 ·rw [hb.frozen (p:=⟨w.heap.size,1,none⟩) (by simp)];simp [go_sem]
 ·have:=hb.size;simp at this;omega
theorem Mill.cell5_new (w:World) (o:Obj) (a b c d e:Value) (t:TypeId) (j:Nat) (u:Value) (h:[a,b,c,d,e][j]? = some u):((w.alloc o).alloc (.cells #[a,b,c,d,e] t)).cell? ((⟨w.heap.size+1,0,none⟩:Addr).add j)=some u:=by
 have:=Mill.cell_new (w.alloc o) #[a,b,c,d,e] t j u h
 simpa using this
theorem Mill.own_mono {w:World} {B B' e size n:Nat} {v:Value} {xs:List Value} (h:w.ownsRow B e size v n xs) (hB:B'≤B):w.ownsRow B' e size v n xs:=by
 refine ⟨h.1, ?_⟩
 rcases h.2 with hn | ⟨g,cap,cur,hv,hg,rest⟩
 ·exact .inl hn
 ·exact .inr ⟨g,cap,cur,hv,by omega,rest⟩
theorem Mill.own_set2 {B:Nat} {wr:World} {e size n:Nat} {v:Value} {xs:List Value} (h:wr.ownsRow (B+1) e size v n xs) (c0 c1:Value) :
  ((wr.setCell ⟨B,0,none⟩ c0).setCell ⟨B,1,none⟩ c1).ownsRow B e size v n xs :=
 Mill.own_mono (ownsRow_setCell_below (ownsRow_setCell_below h (a:=⟨B,0,none⟩) (by simp) _) (a:=⟨B,1,none⟩) (by simp) _) (by omega)
theorem Mill.below_set2 {w wr:World} {o:Obj} (hb:Below (w.heap.size+1) (w.alloc o) wr) (c0 c1:Value) :
  Below w.heap.size w ((wr.setCell ⟨w.heap.size,0,none⟩ c0).setCell ⟨w.heap.size,1,none⟩ c1) :=
 ((((Below.refl _ w).alloc (Nat.le_refl _) _).trans (hb.mono (by omega))).setCell (p:=⟨w.heap.size,0,none⟩) (Nat.le_refl _) _).setCell (p:=⟨w.heap.size,1,none⟩) (Nat.le_refl _) _
theorem specScan_short (s:ByteArray) (w:World) (hl:s.size≤12000) :
  Calls Tryz.prog 10 #[.string s] w fun e w'=>Mill.ScanPost w (Mill.scan s) e w':=by
 obtain ⟨i0,hi,hz0,hz1,hz2⟩:=info_parts Tryz.infoTok
 have HS:Hid (Mill.scan s=Mill.scanL (s.size+1) s.data.toList 0 []):=by rw [Hid,Mill.scan,if_neg (by omega)]
 go_enter Tryz.func10,Tryz.ntmps10
 go_wp2
 go_loopw [4,5,6,7,8] (fun v t _ _ _ wr => ∃ (i f:Nat) (acc:List (Mill.Piece × Nat)),i≤s.size∧acc.length≤i∧s.size - i < f∧t = .int .i64 (i:Int)∧wr.ownsRow (w.heap.size+1) 41 5 v acc.length (Mill.tokCs acc)∧Below (w.heap.size+1) (w.alloc (.cells #[.int .i64 0,.int .i64 0] 26)) wr∧Mill.scanL f (s.data.toList.drop i) i acc=Mill.scan s) (fun _ t _ _ _ _=>s.size - (intOf t).toNat)
 case atStart =>
  refine ⟨0,s.size+1,[],by omega,by simp,by omega,rfl, ?_,(Below.refl _ _).alloc (by simp) _,by rw [HS.out];rfl⟩
  have h:=World.ownsRow_made (base:=w.heap.size+1) (e:=41) (size:=5) (w.alloc (.cells #[.int .i64 0,.int .i64 0] 26)) #[] 0 (by simp) (by decide) rfl
  simpa [Mill.tokCs] using h
 case round =>
  obtain ⟨i,f,acc,hi1,hi2,hf,rfl,hown,hbw,hu⟩:=hrel
  obtain ⟨hc0,hc1,hf0,hf1,hsz⟩:=Mill.fault_cells hbw
  clear HS
  obtain ⟨f,rfl⟩:∃ f',f=f'+1:=⟨f - 1,by omega⟩
  by_cases hlt:i < s.size
  ·have hdc:=Mill.drop_cons s i hlt
   rw [hdc] at hu
   cases h32:((s[i].toNat:Int) == 32) with
   | true =>
    have HU:Hid (Mill.scanL f (s.data.toList.drop (i+1)) (i+1) acc=Mill.scan s):=by
     rw [Mill.scanL_gap _ _ _ _ _ (.inl (Mill.byte_eq _ 32 h32))] at hu;exact hu
    clear hu hdc
    go_wp2
    go_roundw
    case rel=>exact ⟨i+1,f,acc,by omega,by omega,by omega,by go_num,hown,hbw,HU.out⟩
    case measure=>simp [intOf];omega
   | false =>
    cases h10:((s[i].toNat:Int) == 10) with
    | true =>
     have HU:Hid (Mill.scanL f (s.data.toList.drop (i+1)) (i+1) acc=Mill.scan s):=by
      rw [Mill.scanL_gap _ _ _ _ _ (.inr (Mill.byte_eq _ 10 h10))] at hu;exact hu
     clear hu hdc
     go_wp2
     go_roundw
     case rel=>exact ⟨i+1,f,acc,by omega,by omega,by omega,by go_num,hown,hbw,HU.out⟩
     case measure=>simp [intOf];omega
    | false =>
     have hng:¬ (s[i]=32∨s[i]=10):=by
      rintro (h | h)
      ·exact Mill.byte_ne _ 32 h32 h
      ·exact Mill.byte_ne _ 10 h10 h
     cases h35:((s[i].toNat:Int) == 35) with
     | true =>
      have hrm:=Mill.remN_le s i
      have hr1:1≤Mill.remN s i:=by
       have:=Mill.rem_step s i i hlt (Nat.le_refl _) (by omega) (by simp at h35 ⊢;omega)
       omega
      have HU:Hid (Mill.scanL f (s.data.toList.drop (i+Mill.remN s i)) (i+Mill.remN s i) acc=Mill.scan s):=by
       rw [Mill.scanL_rem _ _ _ _ _ hng (Mill.byte_eq _ 35 h35),← hdc,List.drop_drop] at hu;exact hu
      clear hu hdc hng
      go_wp2
      go_loop [5] (fun t => ∃ k:Nat,i≤k∧k≤s.size∧k - i≤Mill.remN s i∧t = .int .i64 (k:Int)) (fun t=>s.size - (intOf t).toNat)
      case atStart=>exact ⟨i,by omega,by omega,by omega,rfl⟩
      case round =>
       obtain ⟨k,hk0,hks,hkw,rfl⟩:=hrel
       by_cases hgo:∃ h:k < s.size,((s[k].toNat:Int) != 10)=true
       ·obtain ⟨hlk,ht⟩:=hgo
        have hk1:=Mill.rem_step s i k hlk hk0 hkw ht
        go_wp2
        go_round
        case rel=>exact ⟨k+1,by omega,by omega,hk1,by go_num⟩
        case measure=>simp [intOf];omega
       ·have hnt:∀ h:k < s.size,((s[k].toNat:Int) != 10)=false:=fun h=>by
         cases hc:((s[k].toNat:Int) != 10) with
         | true=>exact absurd ⟨h,hc⟩ hgo
         | false=>rfl
        have hkl:=Mill.rem_stop s i k hk0 hkw hnt
        have hke:i+Mill.remN s i=k:=by omega
        rw [hke] at HU
        have hki:i < k:=by omega
        clear hkl hgo hkw hke
        by_cases hlk:k < s.size
        ·have ht:=hnt hlk
         clear hnt
         go_wp2
         go_roundw
         case rel=>exact ⟨k,f,acc,by omega,by omega,by omega,rfl,hown,hbw,HU.out⟩
         case measure=>simp [intOf];omega
        ·clear hnt
         go_wp2
         go_roundw
         case rel=>exact ⟨k,f,acc,by omega,by omega,by omega,rfl,hown,hbw,HU.out⟩
         case measure=>simp [intOf];omega
     | false =>
      have hn35:=Mill.byte_ne _ 35 h35
      by_cases hcd:(Mill.one (s.data.toList.drop i)).code=0
      ·have hp1:=Mill.one_size s[i] (s.data.toList.drop (i+1)) (by rw [← hdc];exact hcd)
       rw [← hdc] at hp1
       have hp2:(s.data.toList.drop i).length=s.size - i:=by simp
       have HU:Hid (Mill.scanL f (s.data.toList.drop (i+(Mill.one (s.data.toList.drop i)).size)) (i+(Mill.one (s.data.toList.drop i)).size) (acc++[(Mill.one (s.data.toList.drop i),i)])=Mill.scan s):=by
        rw [hdc] at hcd
        rw [Mill.scanL_tok _ _ _ _ _ hng hn35 hcd,← hdc,List.drop_drop] at hu;exact hu
       have HO:Hid (Mill.oneVal (Mill.one (s.data.toList.drop i)) i = .tuple #[.agg #[.int .i64 (Mill.one (s.data.toList.drop i)).kind,.string (Mill.ba (Mill.one (s.data.toList.drop i)).text),.int .i64 (Mill.one (s.data.toList.drop i)).type,.int .i64 (Mill.one (s.data.toList.drop i)).n,.int .i64 (i:Int)],.int .i64 ((i:Int)+((Mill.one (s.data.toList.drop i)).size:Int)),.int .i64 0]):=by
        rw [Hid,Mill.oneVal,if_pos hcd];rfl
       clear hu hng hn35 hdc hcd
       obtain ⟨p,HP⟩:∃ p,Hid (Mill.one (s.data.toList.drop i)=p):=⟨_,rfl⟩
       rw [HP.out] at HU HO hp1
       obtain ⟨hp3,hp4⟩:=hp1
       rw [hp2] at hp4
       clear hp2
       have HT:Hid (Mill.tokC (p,i)=[.int .i64 p.kind,.string (Mill.ba p.text),.int .i64 p.type,.int .i64 p.n,.int .i64 (i:Int)]):=rfl
       generalize hK:p.kind=K at HO HT
       generalize hT:Mill.ba p.text=X at HO HT
       generalize hY:p.type=Y at HO HT
       generalize hN:p.n=N at HO HT
       clear hK hT hY hN
       go_wp2_with (first
        | (go_at_call 22;refine (l1One_any s i _ hlt (by omega)).mono ?_;rintro e w1 ⟨rfl,hb⟩;rw [HP.out,HO.out];have hz:=hb.size;have hown1:=Mill.own_below hown hb;have hbw1:=hbw.trans (hb.mono (B':=w.heap.size+1) (by omega)))
        | (at_builtin;refine wpList_append_own _ rfl _ _ 33 rfl (w.heap.size+1) 41 i0 (.agg #[.int .i64 0,.string ByteArray.empty,.int .i64 0,.int .i64 0,.int .i64 0]) 5 48 Tryz.underlying33 hi hz0 hz1 hz2 rfl (by decide) _ _ _ rfl ((hown1.alloc _).alloc _) ⟨w1.heap.size+1,0,none⟩ 1 1 [.int .i64 K,.string X,.int .i64 Y,.int .i64 N,.int .i64 (i:Int)] rfl rfl (Mill.cell5_new _ _ _ _ _ _ _ _) (fun x hx=>by simp at hx;rcases hx with rfl | rfl | rfl | rfl | rfl <;> rfl) (by unfold maxLen;omega) (by omega) (by simp;omega) ?_;intro v' w3 hown' hgrow3 hnil3))
       have hb3:Below (w.heap.size+1) (w.alloc (.cells #[.int .i64 0,.int .i64 0] 26)) w3:=Below.grown ((hbw1.alloc (by omega) _).alloc (by simp;omega) _) hgrow3 (by simp;omega) (fun j hj=>(hown.lt _ hj).1)
       go_roundw
       case rel=>exact ⟨i+p.size,f,acc++[(p,i)],by omega,by simp;omega,by omega,by go_num,by rw [Mill.tokCs_snoc,HT.out];simpa using hown',hb3,HU.out⟩
       case measure=>simp [intOf];omega
      ·have HU:Hid (Mill.scan s=([],(Mill.one (s.data.toList.drop i)).code,i)):=by
        rw [← hdc] at hu
        rw [hdc] at hu hcd
        rw [Mill.scanL_bad _ _ _ _ _ hng hn35 hcd,← hdc] at hu;exact hu.symm
       have HO:Hid (Mill.oneVal (Mill.one (s.data.toList.drop i)) i = .tuple #[.agg #[.int .i64 0,.string ⟨#[]⟩,.int .i64 0,.int .i64 0,.int .i64 0],.int .i64 (i:Int),.int .i64 (Mill.one (s.data.toList.drop i)).code]):=by
        rw [Hid,Mill.oneVal,if_neg hcd];rfl
       clear hu hng hn35 hdc
       obtain ⟨c,hc⟩:∃ c,c=(Mill.one (s.data.toList.drop i)).code:=⟨_,rfl⟩
       rw [← hc] at HU HO hcd
       have hcd':(c != 0)=true:=by simpa using hcd
       clear hc hcd
       go_wp2_with (go_at_call 22;refine (l1One_any s i _ hlt (by omega)).mono ?_;rintro e w1 ⟨rfl,hb⟩;rw [HO.out];obtain ⟨hd0,hd1,hg0,hg1,hz⟩:=Mill.fault_cells (hbw.trans (hb.mono (by omega))))
       refine bodyPost_ret (v:=.tuple #[.slice (some ⟨w1.heap.size+1,0,none⟩) 0 0,.agg #[.int .i64 c,.int .i64 (i:Int)]]) (by simp [results,Tryz.results10,go_sem,hd0,hd1,hz]) rfl ?_
       rw [HU.out]
       have hbw1:=hbw.trans (hb.mono (B':=w.heap.size+1) (by omega))
       refine ⟨_,rfl, ?_,((Mill.below_set2 hbw1 _ _).alloc (by simp;omega) _).alloc (by simp;omega) _⟩
       have h:=World.ownsRow_made (base:=w.heap.size) (e:=41) (size:=5) (((w1.setCell ⟨w.heap.size,0,none⟩ (.int .i64 c)).setCell ⟨w.heap.size,1,none⟩ (.int .i64 (i:Int))).alloc (.cells #[.int .i64 0,.string ⟨#[]⟩,.int .i64 0,.int .i64 0,.int .i64 0] 41)) #[] 0 (by simp;omega) (by decide) rfl
       simpa [Mill.tokCs] using h
  ·have HU:Hid (Mill.scan s=(acc,0,0)):=by
    rw [List.drop_of_length_le (by simp;omega),Mill.scanL_nil] at hu;exact hu.symm
   clear hu
   go_wp2
   refine bodyPost_ret (v:=.tuple #[u4,.agg #[.int .i64 0,.int .i64 0]]) (by simp [results,Tryz.results10,go_sem,hc0,hc1]) rfl ?_
   rw [HU.out]
   exact ⟨u4,rfl,Mill.own_set2 hown _ _,Mill.below_set2 hbw _ _⟩
theorem specScan_any (s:ByteArray) (w:World) :
  Calls Tryz.prog 10 #[.string s] w fun e w'=>Mill.ScanPost w (Mill.scan s) e w':=by
 by_cases h:12000 < s.size
 ·exact specScan_long s w h
 ·exact specScan_short s w (by omega)
end Go.Proofs.YtlcckaffhnjneaaGreatDoor
