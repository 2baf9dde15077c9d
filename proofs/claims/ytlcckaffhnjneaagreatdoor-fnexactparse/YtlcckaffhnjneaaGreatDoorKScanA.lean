import Derived.Test.YtlcckaffhnjneaaGreatDoorRows
import Derived.WalkKit
import Derived.WalkSpells
import Derived.WalkLawsBesides
import Derived.Lib.UnsafeStr
import Derived.Laws.IdiomStrings
import Derived.Laws.BytesArg
import Derived.Deep.RegionLaw
set_option maxRecDepth 100000
set_option maxHeartbeats 1000000
namespace Go.Proofs.YtlcckaffhnjneaaGreatDoor
open Go.RowKit
def Mill.letter (b:Int):Bool:=decide (97≤b) && decide (b≤122)
def Mill.digit (b:Int):Bool:=decide (48≤b) && decide (b≤57)
def Mill.tail (b:Int):Bool:=Mill.letter b || Mill.digit b || (b == 95)
def Mill.bare (b:Int):Bool:=decide (32≤b) && decide (b≤126) && b != 34 && b != 92
def Mill.hex (b:Int):Int:=if 48≤b∧b≤57 then b - 48 else if 97≤b∧b≤102 then b - 97+10 else -1
def Mill.typeWords : List (List UInt8):=[[98,111,111,108],[116,101,120,116],[117,56],[117,49,54],[117,51,50],[117,54,52],[105,56],[105,49,54],[105,51,50],[105,54,52]]
def Mill.builtWords : List (List UInt8):=[[114,101,97,100],[104,97,115],[108,105,115,116],[116,111,111,108],[97,114,103],[108,101,110],[97,116],[99,117,116],[102,105,110,100],[99,104,114],[100,101,99],[110,117,109]]
def Mill.plainWords : List (List UInt8):=[[102,110],[108,101,116],[105,102],[101,108,115,101],[119,104,105,108,101],[98,114,101,97,107],[99,111,110,116,105,110,117,101],[114,101,116,117,114,110],[102,97,105,108],[119,114,105,116,101],[115,97,121],[116,114,117,101],[102,97,108,115,101]]
def Mill.marks : List (List UInt8):=[[45,62],[61,61],[33,61],[60,61],[62,61],[60,60],[62,62],[38,38],[124,124],[40],[41],[123],[125],[44],[59],[61],[60],[62],[43],[45],[42],[47],[37],[38],[124],[94],[33],[126]]
def Mill.typeWord (t:Int):ByteArray:=if t=1 then ⟨#[98,111,111,108]⟩ else if t=2 then ⟨#[116,101,120,116]⟩ else if t=3 then ⟨#[117,56]⟩ else if t=4 then ⟨#[117,49,54]⟩ else if t=5 then ⟨#[117,51,50]⟩ else if t=6 then ⟨#[117,54,52]⟩ else if t=7 then ⟨#[105,56]⟩ else if t=8 then ⟨#[105,49,54]⟩ else if t=9 then ⟨#[105,51,50]⟩ else if t=10 then ⟨#[105,54,52]⟩ else ⟨#[]⟩
def Mill.builtWord (t:Int):ByteArray:=if t=1 then ⟨#[114,101,97,100]⟩ else if t=2 then ⟨#[104,97,115]⟩ else if t=3 then ⟨#[108,105,115,116]⟩ else if t=4 then ⟨#[116,111,111,108]⟩ else if t=5 then ⟨#[97,114,103]⟩ else if t=6 then ⟨#[108,101,110]⟩ else if t=7 then ⟨#[97,116]⟩ else if t=8 then ⟨#[99,117,116]⟩ else if t=9 then ⟨#[102,105,110,100]⟩ else if t=10 then ⟨#[99,104,114]⟩ else if t=11 then ⟨#[100,101,99]⟩ else if t=12 then ⟨#[110,117,109]⟩ else ⟨#[]⟩
def Mill.builtKids (t:Int):Int:=if t=1 then 1 else if t=2 then 1 else if t=3 then 1 else if t=4 then 2 else if t=5 then 0 else if t=6 then 1 else if t=7 then 2 else if t=8 then 3 else if t=9 then 2 else if t=10 then 1 else if t=11 then 1 else if t=12 then 1 else 0
theorem l1Letter_any (b:Int) (w:World) :
  Calls Tryz.prog 36 #[.int .u8 b] w fun e w'=>e = .returned (.bool (Mill.letter b))∧w=w':=by
 go_enter Tryz.func36,Tryz.ntmps36
 go_wp2
 all_goals go_ret
 all_goals exact ⟨by simp [Mill.letter, *] <;> omega,rfl⟩
theorem l1Digit_any (b:Int) (w:World) :
  Calls Tryz.prog 37 #[.int .u8 b] w fun e w'=>e = .returned (.bool (Mill.digit b))∧w=w':=by
 go_enter Tryz.func37,Tryz.ntmps37
 go_wp2
 all_goals go_ret
 all_goals exact ⟨by simp [Mill.digit, *] <;> omega,rfl⟩
theorem l1Bare_any (b:Int) (w:World) :
  Calls Tryz.prog 78 #[.int .u8 b] w fun e w'=>e = .returned (.bool (Mill.bare b))∧w=w':=by
 go_enter Tryz.func78,Tryz.ntmps78
 go_wp2
 all_goals go_ret
 all_goals exact ⟨by simp [Mill.bare, *] <;> omega,rfl⟩
theorem l1Integer_any (b:Int) (w:World) :
  Calls Tryz.prog 50 #[.int .i64 b] w fun e w'=>e = .returned (.bool (decide (3≤b) && decide (b≤10)))∧w=w':=by
 go_enter Tryz.func50,Tryz.ntmps50
 go_wp2
 all_goals go_ret
 all_goals exact ⟨by simp [decide_eq_true_eq, *] <;> omega,rfl⟩
theorem l1Signed_any (b:Int) (w:World) :
  Calls Tryz.prog 85 #[.int .i64 b] w fun e w'=>e = .returned (.bool (decide (7≤b) && decide (b≤10)))∧w=w':=by
 go_enter Tryz.func85,Tryz.ntmps85
 go_wp2
 all_goals go_ret
 all_goals exact ⟨by simp [decide_eq_true_eq, *] <;> omega,rfl⟩
theorem l1Hex_any (b:Int) (h0:0≤b) (h1:b≤255) (w:World) :
  Calls Tryz.prog 79 #[.int .u8 b] w fun e w'=>e = .returned (.int .i64 (Mill.hex b))∧w=w':=by
 go_enter Tryz.func79,Tryz.ntmps79
 go_wp2
 all_goals go_ret
 all_goals exact ⟨by simp [Mill.hex, *] <;> omega,rfl⟩
theorem isLetter_any (b:Int) (w:World) :
  Calls Tryz.prog 59 #[.int .i32 b] w fun e w'=>e = .returned (.bool (Mill.letter b))∧w=w':=by
 go_enter Tryz.func59,Tryz.ntmps59
 go_wp2
 all_goals go_ret
 all_goals exact ⟨by simp [Mill.letter, *] <;> omega,rfl⟩
theorem isDigit_any (b:Int) (w:World) :
  Calls Tryz.prog 61 #[.int .i32 b] w fun e w'=>e = .returned (.bool (Mill.digit b))∧w=w':=by
 go_enter Tryz.func61,Tryz.ntmps61
 go_wp2
 all_goals go_ret
 all_goals exact ⟨by simp [Mill.digit, *] <;> omega,rfl⟩
theorem l1Tail_any (b:Int) (w:World) :
  Calls Tryz.prog 38 #[.int .u8 b] w fun e w'=>e = .returned (.bool (Mill.tail b))∧w=w':=by
 cases h1:Mill.letter b <;> cases h2:Mill.digit b
 all_goals
  go_enter Tryz.func38,Tryz.ntmps38
  go_wp2_with (first | (go_at_call 36;refine (l1Letter_any _ _).mono ?_;rintro e w' ⟨rfl,rfl⟩;rw [h1]) | (go_at_call 37;refine (l1Digit_any _ _).mono ?_;rintro e w' ⟨rfl,rfl⟩;rw [h2]))
  all_goals go_ret
  all_goals exact ⟨by simp [Mill.tail, *],rfl⟩
theorem l1TypeWord_any (b:Int) (w:World) :
  Calls Tryz.prog 80 #[.int .i64 b] w fun e w'=>e = .returned (.string (Mill.typeWord b))∧w=w':=by
 go_enter Tryz.func80,Tryz.ntmps80
 go_wp2
 all_goals go_ret
 all_goals exact ⟨by simp_all [Mill.typeWord],rfl⟩
theorem l1BuiltWord_any (b:Int) (w:World) :
  Calls Tryz.prog 54 #[.int .i64 b] w fun e w'=>e = .returned (.tuple #[.string (Mill.builtWord b),.int .i64 (Mill.builtKids b)])∧w=w':=by
 go_enter Tryz.func54,Tryz.ntmps54
 go_wp2
 all_goals go_ret2
 all_goals exact ⟨by simp_all [Mill.builtWord,Mill.builtKids],rfl⟩
def Mill.typeFrom (s:ByteArray):Nat→Int→Int
 | 0,_=>0
 | k+1,t=>if ((Mill.typeWord t).toList == s.toList)=true then t else Mill.typeFrom s k (t+1)
def Mill.typeOf (s:ByteArray):Int:=Mill.typeFrom s 10 1
theorem Mill.ret_int {k:IntKind} {a b:Int} (h:a=b):Ending.returned (.int k a) = .returned (.int k b):=by rw [h]
theorem Mill.ret_bool {a b:Bool} (h:a=b):Ending.returned (.bool a) = .returned (.bool b):=by rw [h]
theorem l1Type_any (s:ByteArray) (w:World) :
  Calls Tryz.prog 45 #[.string s] w fun e w'=>e = .returned (.int .i64 (Mill.typeOf s))∧w=w':=by
 go_enter Tryz.func45,Tryz.ntmps45
 go_wp2
 go_loop [3] (fun t => ∃ k:Nat,k≤10∧t = .int .i64 ((k:Int)+1)∧Mill.typeFrom s (10 - k) ((k:Int)+1)=Mill.typeOf s) (fun t=>11 - (intOf t).toNat)
 case atStart=>exact ⟨0,by omega,rfl,rfl⟩
 case round =>
  obtain ⟨k,hk,rfl,hf⟩:=hrel
  by_cases hlt:k < 10
  ·obtain ⟨j,hj⟩:∃ j,10 - k=j+1:=⟨9 - k,by omega⟩
   by_cases hc:((Mill.typeWord ((k:Int)+1)).toList == s.toList)=true
   ·have HF:Hid ((k:Int)+1=Mill.typeOf s):=by rw [hj,Mill.typeFrom,if_pos hc] at hf;exact hf
    clear hf hj
    go_wp2_with (go_at_call 80;refine (l1TypeWord_any _ _).mono ?_;rintro e w' ⟨rfl,rfl⟩)
    go_ret
    exact ⟨Mill.ret_int HF.out,rfl⟩
   ·have HF:Hid (Mill.typeFrom s (10 - (k+1)) ((k:Int)+1+1)=Mill.typeOf s):=by
     rw [hj,Mill.typeFrom,if_neg hc] at hf
     rw [show 10 - (k+1)=j by omega];exact hf
    have hc':((Mill.typeWord ((k:Int)+1)).toList == s.toList)=false:=by simpa using hc
    clear hf hj hc
    go_wp2_with (go_at_call 80;refine (l1TypeWord_any _ _).mono ?_;rintro e w' ⟨rfl,rfl⟩)
    go_round
    case rel=>exact ⟨k+1,by omega,by go_num,by rw [show ((k+1:Nat):Int)+1=(k:Int)+1+1 by omega];exact HF.out⟩
    case measure=>simp [intOf];omega
  ·have h0:k=10:=by omega
   subst h0
   have HF:Hid (0=Mill.typeOf s):=hf
   clear hf
   go_wp2
   go_ret
   exact ⟨Mill.ret_int HF.out,rfl⟩
def Mill.builtIn (s:ByteArray):Nat→Int→Bool
 | 0,_=>false
 | k+1,t=>((Mill.builtWord t).toList == s.toList) || Mill.builtIn s k (t+1)
def Mill.strOf (l:List UInt8):Value:=.string ⟨l.toArray⟩
def Mill.plainCells : Array Value:=(Mill.plainWords.map Mill.strOf).toArray
def Mill.taken (s:ByteArray):Bool:=(Mill.typeOf s != 0) || Mill.builtIn s 12 1 || Mill.plainWords.any (fun p=>p == s.toList)
theorem l1Plain_any (w:World) :
  Calls Tryz.prog 77 #[] w fun e w'=>e = .returned (.slice (some ⟨w.heap.size,0,none⟩) 13 13)∧w'=w.alloc (.cells Mill.plainCells 9):=by
 go_enter Tryz.func77,Tryz.ntmps77
 go_wp2
 go_ret
 exact ⟨rfl,rfl⟩
theorem Mill.plain_cell (w:World) (k:Nat) (p:List UInt8) (h:Mill.plainWords[k]? = some p):(w.alloc (.cells Mill.plainCells 9)).cell? ⟨w.heap.size,k,none⟩=some (Mill.strOf p):=by
 rw [cell_of_row _ _ _ Mill.plainCells 9 (0,0) (heap_alloc_new w _)]
 simp [Mill.plainCells,h]
theorem l1Taken_any (s:ByteArray) (w:World) :
  Calls Tryz.prog 39 #[.string s] w fun e w'=>e = .returned (.bool (Mill.taken s))∧Below w.heap.size w w':=by
 by_cases h0:(Mill.typeOf s != 0)=true
 ·go_enter Tryz.func39,Tryz.ntmps39
  go_wp2_with (go_at_call 45;refine (l1Type_any _ _).mono ?_;rintro e w' ⟨rfl,rfl⟩)
  go_ret
  exact ⟨by simp [Mill.taken,h0],Below.refl _ _⟩
 have h1:(Mill.typeOf s != 0)=false:=by simpa using h0
 have HT:Hid (Mill.taken s=(Mill.builtIn s 12 1 || Mill.plainWords.any (fun p=>p == s.toList))):=by simp [Hid,Mill.taken,h1]
 clear h0
 go_enter Tryz.func39,Tryz.ntmps39
 go_wp2_with (go_at_call 45;refine (l1Type_any _ _).mono ?_;rintro e w' ⟨rfl,rfl⟩)
 go_loop [3,4,5] (fun t _ _ => ∃ k:Nat,k≤12∧t = .int .i64 ((k:Int)+1)∧Mill.builtIn s (12 - k) ((k:Int)+1)=Mill.builtIn s 12 1) (fun t _ _=>13 - (intOf t).toNat)
 case atStart=>exact ⟨0,by omega,rfl,rfl⟩
 case round =>
  obtain ⟨k,hk,rfl,hf⟩:=hrel
  by_cases hlt:k < 12
  ·obtain ⟨j,hj⟩:∃ j,12 - k=j+1:=⟨11 - k,by omega⟩
   by_cases hc:((Mill.builtWord ((k:Int)+1)).toList == s.toList)=true
   ·have HF:Hid (Mill.taken s=true):=by rw [hj,Mill.builtIn,hc] at hf;rw [Hid,HT.out,← hf];rfl
    clear hf hj
    go_wp2_with (go_at_call 54;refine (l1BuiltWord_any _ _).mono ?_;rintro e w' ⟨rfl,rfl⟩)
    go_ret
    exact ⟨Mill.ret_bool HF.out.symm,Below.refl _ _⟩
   ·have hc':((Mill.builtWord ((k:Int)+1)).toList == s.toList)=false:=by simpa using hc
    have HF:Hid (Mill.builtIn s (12 - (k+1)) ((k:Int)+1+1)=Mill.builtIn s 12 1):=by
     rw [hj,Mill.builtIn,hc'] at hf
     rw [show 12 - (k+1)=j by omega];exact hf
    clear hf hj hc
    go_wp2_with (go_at_call 54;refine (l1BuiltWord_any _ _).mono ?_;rintro e w' ⟨rfl,rfl⟩)
    go_round
    case rel=>exact ⟨k+1,by omega,by go_num,by rw [show ((k+1:Nat):Int)+1=(k:Int)+1+1 by omega];exact HF.out⟩
    case measure=>simp [intOf];omega
  ·have h0:k=12:=by omega
   subst h0
   have HF:Hid (Mill.taken s=Mill.plainWords.any (fun p=>p == s.toList)):=by
    rw [Hid,HT.out,← hf];rfl
   clear hf HT
   have hcell:=fun k p=>Mill.plain_cell w k p
   go_wp2_with (go_at_call 77;refine (l1Plain_any _).mono ?_;rintro e w' ⟨rfl,rfl⟩)
   go_loop [7] (fun t => ∃ k:Nat,k≤13∧t = .int .i64 (k:Int)∧(Mill.plainWords.drop k).any (fun p=>p == s.toList)=Mill.plainWords.any (fun p=>p == s.toList)) (fun t=>13 - (intOf t).toNat)
   case atStart=>exact ⟨0,by omega,rfl,rfl⟩
   case round =>
    obtain ⟨k,hk,rfl,hf⟩:=hrel
    by_cases hlt:k < 13
    ·have hlt2:k < Mill.plainWords.length:=hlt
     have hp:Mill.plainWords[k]? = some Mill.plainWords[k]:=List.getElem?_eq_getElem hlt2
     have hd:Mill.plainWords.drop k=Mill.plainWords[k]::Mill.plainWords.drop (k+1):=List.drop_eq_getElem_cons hlt2
     generalize Mill.plainWords[k]=p at *
     have hcl:=hcell k p hp
     clear hcell hp
     rw [hd,List.any_cons] at hf
     have hsl:(⟨p.toArray⟩:ByteArray).toList=p:=by rw [ByteArray.toList_eq]
     by_cases hc:(p == s.toList)=true
     ·have HF2:Hid (Mill.taken s=true):=by rw [hc] at hf;rw [Hid,HF.out,← hf];rfl
      clear hf hd
      simp only [Mill.strOf] at hcl
      go_wp2
      go_ret
      exact ⟨Mill.ret_bool HF2.out.symm,(Below.refl _ _).alloc (Nat.le_refl _) _⟩
     ·have hc':(p == s.toList)=false:=by simpa using hc
      have HF2:Hid ((Mill.plainWords.drop (k+1)).any (fun p=>p == s.toList)=Mill.plainWords.any (fun p=>p == s.toList)):=by rw [hc'] at hf;exact hf
      clear hf hd hc
      simp only [Mill.strOf] at hcl
      go_wp2
      go_round
      case rel=>exact ⟨k+1,by omega,by go_num,HF2.out⟩
      case measure=>simp [intOf];omega
    ·have h0:k=13:=by omega
     subst h0
     have HF2:Hid (Mill.taken s=false):=by rw [Hid,HF.out,← hf];rfl
     clear hf hcell
     go_wp2
     go_ret
     exact ⟨Mill.ret_bool HF2.out.symm,(Below.refl _ _).alloc (Nat.le_refl _) _⟩
theorem Mill.tw_step {α:Type} (p:α→Bool):∀ (l:List α) (k:Nat) (h:k < l.length),k≤(l.takeWhile p).length→p l[k]=true→k+1≤(l.takeWhile p).length
 | [],k,h,_,_=>by simp at h
 | a::r,0,_,_,hp=>by simp at hp;simp [hp]
 | a::r,k+1,h,hk,hp=>by
  cases ha:p a with
  | false=>simp [ha] at hk
  | true =>
   simp [ha] at hk ⊢
   simp at hp
   exact Mill.tw_step p r k (by simpa using h) hk hp
theorem Mill.tw_stop {α:Type} (p:α→Bool):∀ (l:List α) (k:Nat),k≤(l.takeWhile p).length→(∀ (h:k < l.length),p l[k]=false)→k=(l.takeWhile p).length
 | [],k,hk,_=>by simp at hk;simp [hk]
 | a::r,0,_,hp=>by have:=hp (by simp);simp at this;simp [this]
 | a::r,k+1,hk,hp=>by
  cases ha:p a with
  | false=>simp [ha] at hk
  | true =>
   simp [ha] at hk ⊢
   exact Mill.tw_stop p r k hk (fun h=>by have:=hp (by simpa using h);simpa using this)
theorem Mill.tw_le {α:Type} (p:α→Bool) (l:List α):(l.takeWhile p).length≤l.length:=List.Sublist.length_le (List.takeWhile_sublist p)
def Mill.bits (b:Int):Int:=if b=3∨b=7 then 8 else if b=4∨b=8 then 16 else if b=5∨b=9 then 32 else 64
def Mill.maxBits (b:Int):Int:=if 7≤b∧b≤10 then Mill.bits b - 1 else Mill.bits b
def Mill.maxOf (b:Int):Int:=(2:Int) ^ (Mill.maxBits b).toNat - 1
theorem l1Bits_any (b:Int) (w:World) :
  Calls Tryz.prog 84 #[.int .i64 b] w fun e w'=>e = .returned (.int .i64 (Mill.bits b))∧w=w':=by
 go_enter Tryz.func84,Tryz.ntmps84
 go_wp2
 all_goals go_ret
 all_goals exact ⟨by simp_all [Mill.bits],rfl⟩
theorem Mill.bits_bd (b:Int):8≤Mill.bits b∧Mill.bits b≤64:=by
 unfold Mill.bits;split <;> (try split) <;> (try split) <;> omega
theorem Mill.pow_step (k:Nat):((2:Int) ^ k - 1) * 2+1=(2:Int) ^ (k+1) - 1:=by rw [Int.pow_succ];omega
theorem Mill.pow_pos (k:Nat):1≤(2:Int) ^ k:=by
 induction k with
 | zero=>simp
 | succ k ih=>rw [Int.pow_succ];omega
theorem Mill.pow_le (k n:Nat) (h:k≤n):(2:Int) ^ k≤(2:Int) ^ n:=by
  induction n with
  | zero => have : k = 0 := by omega
            subst this;exact Int.le_refl _
  | succ n ih =>
    by_cases hk:k=n+1
    · subst hk;exact Int.le_refl _
    · have:=ih (by omega);have:=Mill.pow_pos n;rw [Int.pow_succ];omega
theorem Mill.pow_bd (k:Nat) (h:k≤63):(2:Int) ^ k - 1≤9223372036854775807:=by
 have:=Mill.pow_le k 63 h
 have e:(2:Int) ^ 63=9223372036854775808:=by decide
 omega
theorem l1Max_aux (b:Int) (n:Nat) (hn:n≤64) (w:World)
  (hm:(n:Int)=Mill.maxBits b):Calls Tryz.prog 51 #[.int .i64 b] w fun e w'=>e = .returned (.int .u64 (Mill.maxOf b))∧w=w':=by
 have hb1:=(Mill.bits_bd b).1
 have hb2:=(Mill.bits_bd b).2
 have HM:Hid ((2:Int) ^ n - 1=Mill.maxOf b):=by simp only [Hid,Mill.maxOf,← hm,Int.toNat_natCast]
 by_cases hs:7≤b∧b≤10
 all_goals
  first
  | (have hs1:(decide (7≤b) && decide (b≤10))=true:=by simp [hs])
  | (have hs1:(decide (7≤b) && decide (b≤10))=false:=by simp;omega)
  first
  | (have HN:Hid (Mill.bits b - 1=(n:Int)):=by simp only [Mill.maxBits,if_pos hs] at hm;simp only [Hid,hm])
  | (have HN:Hid (Mill.bits b=(n:Int)):=by simp only [Mill.maxBits,if_neg hs] at hm;simp only [Hid,hm])
  clear hm hs
  go_enter Tryz.func51,Tryz.ntmps51
  go_wp2_with (first | (go_at_call 84;refine (l1Bits_any _ _).mono ?_;rintro e w' ⟨rfl,rfl⟩) | (go_at_call 85;refine (l1Signed_any _ _).mono ?_;rintro e w' ⟨rfl,rfl⟩;rw [hs1]))
  simp only [HN.out]
  go_loop [4,5] (fun m i => ∃ k:Nat,k≤n∧i = .int .i64 (k:Int)∧m = .int .u64 ((2:Int) ^ k - 1)) (fun _ i=>n - (intOf i).toNat)
  case atStart=>exact ⟨0,by omega,rfl,rfl⟩
  case round =>
   obtain ⟨k,hk,rfl,rfl⟩:=hrel
   by_cases hlt:k < n
   ·have h1:=Mill.pow_pos k
    have h2:=Mill.pow_bd k (by omega)
    have HP:Hid (((2:Int) ^ k - 1) * 2+1=(2:Int) ^ (k+1) - 1):=Mill.pow_step k
    have h0:0≤(2:Int) ^ k - 1:=by omega
    clear h1
    generalize hg:(2:Int) ^ k - 1=m at *
    have HG:=hg
    clear hg
    go_wp2
    go_round
    case rel=>exact ⟨k+1,by omega,by go_num,by rw [← HP.out]⟩
    case measure=>simp [intOf];omega
   ·have h0:k=n:=by omega
    subst h0
    go_wp2
    go_ret
    exact ⟨Mill.ret_int HM.out,rfl⟩
theorem Mill.maxBits_bd (b:Int):7≤Mill.maxBits b∧Mill.maxBits b≤64:=by
 have:=Mill.bits_bd b
 unfold Mill.maxBits;split <;> omega
theorem l1Max_any (b:Int) (w:World) :
  Calls Tryz.prog 51 #[.int .i64 b] w fun e w'=>e = .returned (.int .u64 (Mill.maxOf b))∧w=w' :=
 have h:=Mill.maxBits_bd b
 l1Max_aux b (Mill.maxBits b).toNat (by omega) w (by omega)
theorem Mill.maxOf_bd (b:Int):127≤Mill.maxOf b∧Mill.maxOf b≤18446744073709551615:=by
 have h:=Mill.maxBits_bd b
 have h1:=Mill.pow_le 7 (Mill.maxBits b).toNat (by omega)
 have h2:=Mill.pow_le (Mill.maxBits b).toNat 64 (by omega)
 have e1:(2:Int) ^ 7=128:=by decide
 have e2:(2:Int) ^ 64=18446744073709551616:=by decide
 unfold Mill.maxOf
 omega
def Mill.isDig (c:UInt8):Bool:=Mill.digit (c.toNat:Int)
def Mill.digLen (l:List UInt8):Nat:=(l.takeWhile Mill.isDig).length
def Mill.numOf (mx:Int):List UInt8→Int→Option Int
 | [],n=>some n
 | c::r,n=>if (mx - ((c.toNat:Int) - 48)) / 10 < n then none else Mill.numOf mx r (n * 10+((c.toNat:Int) - 48))
def Mill.numType (s:ByteArray) (k:Nat):Int:=if k < s.size then Mill.typeOf (s.extract k s.size) else 10
def Mill.intBad (s:ByteArray) (k:Nat) (t:Int):Bool := !(decide (3≤t) && decide (t≤10)) || decide (20 < k) || (decide (1 < k) && (s.data.toList.head? == some 48))
def Mill.intRead (s:ByteArray):Option (Int × Int) :=
 if Mill.intBad s (Mill.digLen s.data.toList) (Mill.numType s (Mill.digLen s.data.toList))=true then none
 else (Mill.numOf (Mill.maxOf (Mill.numType s (Mill.digLen s.data.toList))) (s.data.toList.take (Mill.digLen s.data.toList)) 0).map (fun n=>(Mill.numType s (Mill.digLen s.data.toList),n))
def Mill.intVal (o:Option (Int × Int)):Value:=match o with
 | none => .tuple #[.int .i64 0,.int .i64 0,.bool false]
 | some (t,n) => .tuple #[.int .i64 t,.int .i64 (wrap64 n),.bool true]
theorem Mill.digLen_le (s:ByteArray):Mill.digLen s.data.toList≤s.size:=by have:=Mill.tw_le Mill.isDig s.data.toList;simpa [Mill.digLen] using this
theorem Mill.dig_step (s:ByteArray) (k:Nat) (h:k < s.size) (hk:k≤Mill.digLen s.data.toList) (hd:Mill.digit (s[k].toNat:Int)=true):k+1≤Mill.digLen s.data.toList :=
 Mill.tw_step Mill.isDig s.data.toList k (by simpa using h) hk hd
theorem Mill.dig_stop (s:ByteArray) (k:Nat) (hk:k≤Mill.digLen s.data.toList) (hd:∀ h:k < s.size,Mill.digit (s[k].toNat:Int)=false):k=Mill.digLen s.data.toList :=
 Mill.tw_stop Mill.isDig s.data.toList k hk (fun h=>hd (by simpa using h))
theorem Mill.dig_at (s:ByteArray) (k:Nat) (h:k < s.size) (hk:k < Mill.digLen s.data.toList):Mill.digit (s[k].toNat:Int)=true:=by
 by_cases hd:Mill.digit (s[k].toNat:Int)=true
 ·exact hd
 ·have:=Mill.dig_stop s k (by omega) (fun _=>by simpa using hd)
  omega
theorem Mill.num_drop (s:ByteArray) (k j:Nat) (hk:k≤s.size) (hj:j < k):(s.data.toList.take k).drop j=s[j]::(s.data.toList.take k).drop (j+1):=by
 rw [List.drop_eq_getElem_cons (by simp;omega)]
 simp [List.getElem_take]
 rfl
theorem Mill.num_bad (mx m:Int) (c:UInt8) (r:List UInt8) (h:(mx - ((c.toNat:Int) - 48)) / 10 < m):Mill.numOf mx (c::r) m=none:=by rw [Mill.numOf,if_pos h]
theorem Mill.num_ok (mx m:Int) (c:UInt8) (r:List UInt8) (h:¬ (mx - ((c.toNat:Int) - 48)) / 10 < m):Mill.numOf mx (c::r) m=Mill.numOf mx r (m * 10+((c.toNat:Int) - 48)):=by rw [Mill.numOf,if_neg h]
theorem Mill.ret_none {v:Value} (o:Option (Int × Int)) (h:o=none) (hv:v = .tuple #[.int .i64 0,.int .i64 0,.bool false]):Ending.returned v = .returned (Mill.intVal o):=by rw [h,hv];rfl
theorem Mill.digit_bd {b:Int} (h:Mill.digit b=true):48≤b∧b≤57:=by simpa [Mill.digit] using h
theorem Mill.head_eq (s:ByteArray) (h:0 < s.size):s.data.toList.head? = some s[0]:=by
 rw [List.head?_eq_getElem?,List.getElem?_eq_getElem (by simpa using h)];rfl
theorem l1Int_any (s:ByteArray) (w:World) (hs:s.size≤maxLen) :
  Calls Tryz.prog 40 #[.string s] w fun e w'=>e = .returned (Mill.intVal (Mill.intRead s))∧w=w':=by
 unfold maxLen at hs
 go_enter Tryz.func40,Tryz.ntmps40
 go_wp2
 go_loop [5] (fun t => ∃ k:Nat,k≤Mill.digLen s.data.toList∧k≤s.size∧t = .int .i64 (k:Int)) (fun t=>s.size - (intOf t).toNat)
 case atStart=>exact ⟨0,by omega,by omega,rfl⟩
 case round =>
  obtain ⟨k,hk,hks,rfl⟩:=hrel
  by_cases hgo:∃ h:k < s.size,Mill.digit (s[k].toNat:Int)=true
  ·obtain ⟨hlt,hd⟩:=hgo
   have hk1:=Mill.dig_step s k hlt hk hd
   go_wp2_with (go_at_call 37;refine (l1Digit_any _ _).mono ?_;rintro e w' ⟨rfl,rfl⟩;rw [hd])
   go_round
   case rel=>exact ⟨k+1,hk1,by omega,by go_num⟩
   case measure=>simp [intOf];omega
  ·have hdig:k=Mill.digLen s.data.toList:=Mill.dig_stop s k hk (fun h=>by
    cases hc:Mill.digit (s[k].toNat:Int) with
    | true=>exact absurd ⟨h,hc⟩ hgo
    | false=>rfl)
   have HR:Hid (Mill.intRead s=if Mill.intBad s k (Mill.numType s k)=true then none
    else (Mill.numOf (Mill.maxOf (Mill.numType s k)) (s.data.toList.take k) 0).map (fun n=>(Mill.numType s k,n))):=by rw [Hid,Mill.intRead,← hdig]
   have HD:Hid (∀ j,j < k→∀ h:j < s.size,Mill.digit (s[j].toNat:Int)=true):=fun j hj h=>Mill.dig_at s j h (by omega)
   have hnd:∀ h:k < s.size,Mill.digit (s[k].toNat:Int)=false:=fun h=>by
    cases hc:Mill.digit (s[k].toNat:Int) with
    | true=>exact absurd ⟨h,hc⟩ hgo
    | false=>rfl
   clear hdig hgo
   by_cases hlt:k < s.size
   ·have hd:=hnd hlt
    obtain ⟨t,HT⟩:∃ t,Hid (Mill.typeOf (s.extract k s.size)=t):=⟨_,rfl⟩
    have HN:Hid (Mill.numType s k=t):=by simp only [Hid,Mill.numType,if_pos hlt];exact HT
    clear hnd
    cases hi:(decide (3≤t) && decide (t≤10)) with
    | false =>
     have HB:Hid (Mill.intRead s=none):=by rw [Hid,HR.out,HN.out,if_pos (by simp [Mill.intBad,hi])]
     clear HR HN HD
     go_wp2_with (first | (go_at_call 37;refine (l1Digit_any _ _).mono ?_;rintro e w' ⟨rfl,rfl⟩;rw [hd]) | (go_at_call 45;refine (l1Type_any _ _).mono ?_;rintro e w' ⟨rfl,rfl⟩;rw [HT.out]) | (go_at_call 50;refine (l1Integer_any _ _).mono ?_;rintro e w' ⟨rfl,rfl⟩;try rw [hi]))
     go_ret3
     exact ⟨Mill.ret_none _ HB.out rfl,rfl⟩
    | true =>
     by_cases h20:20 < k
     ·have HB:Hid (Mill.intRead s=none):=by rw [Hid,HR.out,HN.out,if_pos (by simp [Mill.intBad,h20])]
      clear HR HN HD
      go_wp2_with (first | (go_at_call 37;refine (l1Digit_any _ _).mono ?_;rintro e w' ⟨rfl,rfl⟩;rw [hd]) | (go_at_call 45;refine (l1Type_any _ _).mono ?_;rintro e w' ⟨rfl,rfl⟩;rw [HT.out]) | (go_at_call 50;refine (l1Integer_any _ _).mono ?_;rintro e w' ⟨rfl,rfl⟩;try rw [hi]))
      go_ret3
      exact ⟨Mill.ret_none _ HB.out rfl,rfl⟩
     by_cases h1:1 < k
     ·have h0:0 < s.size:=by omega
      have hh:=Mill.head_eq s h0
      cases h48:((s[0].toNat:Int) == 48) with
      | true =>
       have h48':s[0]=48:=by simp at h48;exact UInt8.toNat_inj.1 (by simpa using (show s[0].toNat=48 by omega))
       have HB:Hid (Mill.intRead s=none):=by rw [Hid,HR.out,HN.out,if_pos (by simp [Mill.intBad,h1,hh,h48'])]
       clear HR HN HD
       go_wp2_with (first | (go_at_call 37;refine (l1Digit_any _ _).mono ?_;rintro e w' ⟨rfl,rfl⟩;rw [hd]) | (go_at_call 45;refine (l1Type_any _ _).mono ?_;rintro e w' ⟨rfl,rfl⟩;rw [HT.out]) | (go_at_call 50;refine (l1Integer_any _ _).mono ?_;rintro e w' ⟨rfl,rfl⟩;try rw [hi]))
       go_ret3
       exact ⟨Mill.ret_none _ HB.out rfl,rfl⟩
      | false =>
       have h48':¬ s[0]=48:=by intro h;rw [h] at h48;simp at h48
       have HG:Hid (Mill.intRead s=(Mill.numOf (Mill.maxOf t) (s.data.toList.take k) 0).map (fun n=>(t,n))):=by rw [Hid,HR.out,HN.out,if_neg (by simp [Mill.intBad,hh,h48'];simp at hi;omega)]
       have hx:=Mill.maxOf_bd t
       obtain ⟨hx1,hx2⟩:=hx
       clear HR HN
       go_wp2_with (first | (go_at_call 37;refine (l1Digit_any _ _).mono ?_;rintro e w' ⟨rfl,rfl⟩;rw [hd]) | (go_at_call 45;refine (l1Type_any _ _).mono ?_;rintro e w' ⟨rfl,rfl⟩;rw [HT.out]) | (go_at_call 50;refine (l1Integer_any _ _).mono ?_;rintro e w' ⟨rfl,rfl⟩;try rw [hi]))
       go_loop [7,8,9] (fun m i _ => ∃ (j:Nat) (x:Int),j≤k∧i = .int .i64 (j:Int)∧m = .int .u64 x∧0≤x∧x≤Mill.maxOf t∧Mill.numOf (Mill.maxOf t) ((s.data.toList.take k).drop j) x=Mill.numOf (Mill.maxOf t) (s.data.toList.take k) 0) (fun _ i _=>k - (intOf i).toNat)
       case atStart=>exact ⟨0,0,by omega,rfl,rfl,by omega,by omega,rfl⟩
       case round =>
        obtain ⟨j,x,hj,rfl,rfl,hx3,hx4,hn⟩:=hrel
        by_cases hjk:j < k
        ·have hjs:j < s.size:=by omega
         have hdj:=Mill.digit_bd (HD.out j hjk hjs)
         obtain ⟨hc1,hc2⟩:=hdj
         rw [Mill.num_drop s k j hks hjk] at hn
         by_cases hov:(Mill.maxOf t - ((s[j].toNat:Int) - 48)) / 10 < x
         ·have HB:Hid (Mill.intRead s=none):=by rw [Mill.num_bad _ _ _ _ hov] at hn;rw [Hid,HG.out,← hn];rfl
          clear hn HG HD
          go_wp2_with (go_at_call 51;refine (l1Max_any _ _).mono ?_;rintro e w' ⟨rfl,rfl⟩)
          go_ret3
          exact ⟨Mill.ret_none _ HB.out rfl,rfl⟩
         ·have HN2:Hid (Mill.numOf (Mill.maxOf t) ((s.data.toList.take k).drop (j+1)) (x * 10+((s[j].toNat:Int) - 48))=Mill.numOf (Mill.maxOf t) (s.data.toList.take k) 0):=by rw [Mill.num_ok _ _ _ _ hov] at hn;exact hn
          clear hn
          go_wp2_with (go_at_call 51;refine (l1Max_any _ _).mono ?_;rintro e w' ⟨rfl,rfl⟩)
          go_round
          case rel=>exact ⟨j+1,_,by omega,by go_num,rfl,by omega,by omega,HN2.out⟩
          case measure=>simp [intOf];omega
        ·have h0:j=k:=by omega
         have HB:Hid (Mill.intRead s=some (t,x)):=by
          rw [h0,List.drop_of_length_le (by simp;omega)] at hn
          rw [Hid,HG.out,← hn];rfl
         clear hn HG HD
         go_wp2
         go_ret3
         exact ⟨by rw [HB.out];rfl,rfl⟩
     ·have HG:Hid (Mill.intRead s=(Mill.numOf (Mill.maxOf t) (s.data.toList.take k) 0).map (fun n=>(t,n))):=by rw [Hid,HR.out,HN.out,if_neg (by simp [Mill.intBad,h1];simp at hi;omega)]
      have hx:=Mill.maxOf_bd t
      obtain ⟨hx1,hx2⟩:=hx
      clear HR HN
      go_wp2_with (first | (go_at_call 37;refine (l1Digit_any _ _).mono ?_;rintro e w' ⟨rfl,rfl⟩;rw [hd]) | (go_at_call 45;refine (l1Type_any _ _).mono ?_;rintro e w' ⟨rfl,rfl⟩;rw [HT.out]) | (go_at_call 50;refine (l1Integer_any _ _).mono ?_;rintro e w' ⟨rfl,rfl⟩;try rw [hi]))
      go_loop [7,8,9] (fun m i _ => ∃ (j:Nat) (x:Int),j≤k∧i = .int .i64 (j:Int)∧m = .int .u64 x∧0≤x∧x≤Mill.maxOf t∧Mill.numOf (Mill.maxOf t) ((s.data.toList.take k).drop j) x=Mill.numOf (Mill.maxOf t) (s.data.toList.take k) 0) (fun _ i _=>k - (intOf i).toNat)
      case atStart=>exact ⟨0,0,by omega,rfl,rfl,by omega,by omega,rfl⟩
      case round =>
       obtain ⟨j,x,hj,rfl,rfl,hx3,hx4,hn⟩:=hrel
       by_cases hjk:j < k
       ·have hjs:j < s.size:=by omega
        have hdj:=Mill.digit_bd (HD.out j hjk hjs)
        obtain ⟨hc1,hc2⟩:=hdj
        rw [Mill.num_drop s k j hks hjk] at hn
        by_cases hov:(Mill.maxOf t - ((s[j].toNat:Int) - 48)) / 10 < x
        ·have HB:Hid (Mill.intRead s=none):=by rw [Mill.num_bad _ _ _ _ hov] at hn;rw [Hid,HG.out,← hn];rfl
         clear hn HG HD
         go_wp2_with (go_at_call 51;refine (l1Max_any _ _).mono ?_;rintro e w' ⟨rfl,rfl⟩)
         go_ret3
         exact ⟨Mill.ret_none _ HB.out rfl,rfl⟩
        ·have HN2:Hid (Mill.numOf (Mill.maxOf t) ((s.data.toList.take k).drop (j+1)) (x * 10+((s[j].toNat:Int) - 48))=Mill.numOf (Mill.maxOf t) (s.data.toList.take k) 0):=by rw [Mill.num_ok _ _ _ _ hov] at hn;exact hn
         clear hn
         go_wp2_with (go_at_call 51;refine (l1Max_any _ _).mono ?_;rintro e w' ⟨rfl,rfl⟩)
         go_round
         case rel=>exact ⟨j+1,_,by omega,by go_num,rfl,by omega,by omega,HN2.out⟩
         case measure=>simp [intOf];omega
       ·have h0:j=k:=by omega
        have HB:Hid (Mill.intRead s=some (t,x)):=by
         rw [h0,List.drop_of_length_le (by simp;omega)] at hn
         rw [Hid,HG.out,← hn];rfl
        clear hn HG HD
        go_wp2
        go_ret3
        exact ⟨by rw [HB.out];rfl,rfl⟩
   ·have HN:Hid (Mill.numType s k=10):=by simp only [Hid,Mill.numType,if_neg hlt]
    clear hnd
    have hi:(decide ((3:Int)≤10) && decide ((10:Int)≤10))=true:=by decide
    by_cases h20:20 < k
    ·have HB:Hid (Mill.intRead s=none):=by rw [Hid,HR.out,HN.out,if_pos (by simp [Mill.intBad,h20])]
     clear HR HN HD
     go_wp2_with (first | (go_at_call 37;refine (l1Digit_any _ _).mono ?_;rintro e w' ⟨rfl,rfl⟩;rw [hd]) | (go_at_call 45;refine (l1Type_any _ _).mono ?_;rintro e w' ⟨rfl,rfl⟩;rw [HT.out]) | (go_at_call 50;refine (l1Integer_any _ _).mono ?_;rintro e w' ⟨rfl,rfl⟩;try rw [hi]))
     go_ret3
     exact ⟨Mill.ret_none _ HB.out rfl,rfl⟩
    by_cases h1:1 < k
    ·have h0:0 < s.size:=by omega
     have hh:=Mill.head_eq s h0
     cases h48:((s[0].toNat:Int) == 48) with
     | true =>
      have h48':s[0]=48:=by simp at h48;exact UInt8.toNat_inj.1 (by simpa using (show s[0].toNat=48 by omega))
      have HB:Hid (Mill.intRead s=none):=by rw [Hid,HR.out,HN.out,if_pos (by simp [Mill.intBad,h1,hh,h48'])]
      clear HR HN HD
      go_wp2_with (first | (go_at_call 37;refine (l1Digit_any _ _).mono ?_;rintro e w' ⟨rfl,rfl⟩;rw [hd]) | (go_at_call 45;refine (l1Type_any _ _).mono ?_;rintro e w' ⟨rfl,rfl⟩;rw [HT.out]) | (go_at_call 50;refine (l1Integer_any _ _).mono ?_;rintro e w' ⟨rfl,rfl⟩;try rw [hi]))
      go_ret3
      exact ⟨Mill.ret_none _ HB.out rfl,rfl⟩
     | false =>
      have h48':¬ s[0]=48:=by intro h;rw [h] at h48;simp at h48
      have HG:Hid (Mill.intRead s=(Mill.numOf (Mill.maxOf 10) (s.data.toList.take k) 0).map (fun n=>(10,n))):=by rw [Hid,HR.out,HN.out,if_neg (by simp [Mill.intBad,hh,h48'];simp at hi;omega)]
      have hx:=Mill.maxOf_bd 10
      obtain ⟨hx1,hx2⟩:=hx
      clear HR HN
      go_wp2_with (first | (go_at_call 37;refine (l1Digit_any _ _).mono ?_;rintro e w' ⟨rfl,rfl⟩;rw [hd]) | (go_at_call 45;refine (l1Type_any _ _).mono ?_;rintro e w' ⟨rfl,rfl⟩;rw [HT.out]) | (go_at_call 50;refine (l1Integer_any _ _).mono ?_;rintro e w' ⟨rfl,rfl⟩;try rw [hi]))
      go_loop [7,8,9] (fun m i _ => ∃ (j:Nat) (x:Int),j≤k∧i = .int .i64 (j:Int)∧m = .int .u64 x∧0≤x∧x≤Mill.maxOf 10∧Mill.numOf (Mill.maxOf 10) ((s.data.toList.take k).drop j) x=Mill.numOf (Mill.maxOf 10) (s.data.toList.take k) 0) (fun _ i _=>k - (intOf i).toNat)
      case atStart=>exact ⟨0,0,by omega,rfl,rfl,by omega,by omega,rfl⟩
      case round =>
       obtain ⟨j,x,hj,rfl,rfl,hx3,hx4,hn⟩:=hrel
       by_cases hjk:j < k
       ·have hjs:j < s.size:=by omega
        have hdj:=Mill.digit_bd (HD.out j hjk hjs)
        obtain ⟨hc1,hc2⟩:=hdj
        rw [Mill.num_drop s k j hks hjk] at hn
        by_cases hov:(Mill.maxOf 10 - ((s[j].toNat:Int) - 48)) / 10 < x
        ·have HB:Hid (Mill.intRead s=none):=by rw [Mill.num_bad _ _ _ _ hov] at hn;rw [Hid,HG.out,← hn];rfl
         clear hn HG HD
         go_wp2_with (go_at_call 51;refine (l1Max_any _ _).mono ?_;rintro e w' ⟨rfl,rfl⟩)
         go_ret3
         exact ⟨Mill.ret_none _ HB.out rfl,rfl⟩
        ·have HN2:Hid (Mill.numOf (Mill.maxOf 10) ((s.data.toList.take k).drop (j+1)) (x * 10+((s[j].toNat:Int) - 48))=Mill.numOf (Mill.maxOf 10) (s.data.toList.take k) 0):=by rw [Mill.num_ok _ _ _ _ hov] at hn;exact hn
         clear hn
         go_wp2_with (go_at_call 51;refine (l1Max_any _ _).mono ?_;rintro e w' ⟨rfl,rfl⟩)
         go_round
         case rel=>exact ⟨j+1,_,by omega,by go_num,rfl,by omega,by omega,HN2.out⟩
         case measure=>simp [intOf];omega
       ·have h0:j=k:=by omega
        have HB:Hid (Mill.intRead s=some (10,x)):=by
         rw [h0,List.drop_of_length_le (by simp;omega)] at hn
         rw [Hid,HG.out,← hn];rfl
        clear hn HG HD
        go_wp2
        go_ret3
        exact ⟨by rw [HB.out];rfl,rfl⟩
    ·have HG:Hid (Mill.intRead s=(Mill.numOf (Mill.maxOf 10) (s.data.toList.take k) 0).map (fun n=>(10,n))):=by rw [Hid,HR.out,HN.out,if_neg (by simp [Mill.intBad,h1];simp at hi;omega)]
     have hx:=Mill.maxOf_bd 10
     obtain ⟨hx1,hx2⟩:=hx
     clear HR HN
     go_wp2_with (first | (go_at_call 37;refine (l1Digit_any _ _).mono ?_;rintro e w' ⟨rfl,rfl⟩;rw [hd]) | (go_at_call 45;refine (l1Type_any _ _).mono ?_;rintro e w' ⟨rfl,rfl⟩;rw [HT.out]) | (go_at_call 50;refine (l1Integer_any _ _).mono ?_;rintro e w' ⟨rfl,rfl⟩;try rw [hi]))
     go_loop [7,8,9] (fun m i _ => ∃ (j:Nat) (x:Int),j≤k∧i = .int .i64 (j:Int)∧m = .int .u64 x∧0≤x∧x≤Mill.maxOf 10∧Mill.numOf (Mill.maxOf 10) ((s.data.toList.take k).drop j) x=Mill.numOf (Mill.maxOf 10) (s.data.toList.take k) 0) (fun _ i _=>k - (intOf i).toNat)
     case atStart=>exact ⟨0,0,by omega,rfl,rfl,by omega,by omega,rfl⟩
     case round =>
      obtain ⟨j,x,hj,rfl,rfl,hx3,hx4,hn⟩:=hrel
      by_cases hjk:j < k
      ·have hjs:j < s.size:=by omega
       have hdj:=Mill.digit_bd (HD.out j hjk hjs)
       obtain ⟨hc1,hc2⟩:=hdj
       rw [Mill.num_drop s k j hks hjk] at hn
       by_cases hov:(Mill.maxOf 10 - ((s[j].toNat:Int) - 48)) / 10 < x
       ·have HB:Hid (Mill.intRead s=none):=by rw [Mill.num_bad _ _ _ _ hov] at hn;rw [Hid,HG.out,← hn];rfl
        clear hn HG HD
        go_wp2_with (go_at_call 51;refine (l1Max_any _ _).mono ?_;rintro e w' ⟨rfl,rfl⟩)
        go_ret3
        exact ⟨Mill.ret_none _ HB.out rfl,rfl⟩
       ·have HN2:Hid (Mill.numOf (Mill.maxOf 10) ((s.data.toList.take k).drop (j+1)) (x * 10+((s[j].toNat:Int) - 48))=Mill.numOf (Mill.maxOf 10) (s.data.toList.take k) 0):=by rw [Mill.num_ok _ _ _ _ hov] at hn;exact hn
        clear hn
        go_wp2_with (go_at_call 51;refine (l1Max_any _ _).mono ?_;rintro e w' ⟨rfl,rfl⟩)
        go_round
        case rel=>exact ⟨j+1,_,by omega,by go_num,rfl,by omega,by omega,HN2.out⟩
        case measure=>simp [intOf];omega
      ·have h0:j=k:=by omega
       have HB:Hid (Mill.intRead s=some (10,x)):=by
        rw [h0,List.drop_of_length_le (by simp;omega)] at hn
        rw [Hid,HG.out,← hn];rfl
       clear hn HG HD
       go_wp2
       go_ret3
       exact ⟨by rw [HB.out];rfl,rfl⟩
theorem Mill.step_append_own {P:Program} {ops:Array Oper} {o:Oper} {a:Act} {w:World} {K:Act→World→Prop} {Q:Exit→Act→World→Prop} {E:Prop}
  (hg:o.guard=none) (s x:Operand) (t:TypeId) (hop:o.op=Op.call { callee:=Callee.builtin Builtin.append,args := #[s,x],argTypes := #[t,t] })
  (base:Nat) (e:TypeId) (i:TypeInfo) (z:Value) (size bytes:Nat) (h1:P.underlying t=some (.slice e)) (h2:P.info? e=some i) (h3:i.zero=some z) (h4:i.size=size) (h5:i.bytes=bytes) (h6:z.cells.size=size) (h7:0 < size)
  (v:Value) (n:Nat) (xs:List Value) (hs:a.eval s=v) (hown:w.ownsRow base e size v n xs)
  (ad:Addr) (m c:Nat) (news:List Value) (hx:a.eval x = .slice (some ad) m c) (hn:news.length=m * size) (hc:∀ j u,news[j]? = some u→w.cell? (ad.add j)=some u) (h1c:∀ u ∈ news,u.oneCell'=true)
  (b1:n+m≤maxLen) (b2:(n+m) * bytes≤140737488355328) (hbase:base≤w.heap.size)
  (hK:∀ v' w',w'.ownsRow base e size v' (n+m) (xs++news)→w.grownBy w' v.ownBlock→K (a.put o.dst v') w') :
  if Region.wanted o (yielded ops a.tmps)=true then Oper.wp P o a w K Q else E:=by
 have hw:Region.wanted o (yielded ops a.tmps)=true:=by simp [Region.wanted,hg]
 rw [if_pos hw]
 obtain ⟨v',w',hrun,r1,r2,_⟩:=run_append_own (P:=P) w base t o.type e i z size bytes h1 h2 h3 h4 h5 h6 h7 v n xs hown ad m c news hn hc h1c b1 b2 hbase
 unfold Oper.wp
 simp [execOp,hop,resolve,invoke,builtin,hs,hx,hrun,Result.andThen]
 exact hK v' w' r1 r2
def Mill.isBare (c:UInt8):Bool:=Mill.bare (c.toNat:Int)
def Mill.hexOf (c:UInt8):Int:=Mill.hex (c.toNat:Int)
def Mill.unq : List UInt8→List UInt8→Option (List UInt8 × List UInt8)
 | [],_=>none
 | c::r,acc=>if c=34 then some (acc,r) else if Mill.isBare c=true then Mill.unq r (acc++[c]) else if c=92 then
   match r with
   | a::b::r2=>if 0≤Mill.hexOf a∧0≤Mill.hexOf b then Mill.unq r2 (acc++[UInt8.ofNat (16 * Mill.hexOf a+Mill.hexOf b).toNat]) else none
   | _=>none
  else none
def Mill.unqVal (s:ByteArray) (at':Nat):Value:=match Mill.unq (s.data.toList.drop (at'+1)) [] with
 | none => .tuple #[.string ⟨#[]⟩,.int .i64 (at':Int),.bool false]
 | some (t,r) => .tuple #[.string ⟨t.toArray⟩,.int .i64 ((s.size - r.length:Nat):Int),.bool true]
theorem Mill.conv_own {P:Program} {w:World} {src dst e:TypeId} (hs:P.underlying src=some (.slice e)) (he:P.underlying e=some (.int .u8)) (hd:P.underlying dst=some .string) {B:Nat} {v:Value} {acc:List UInt8}
  (h:w.ownsRow B e 1 v acc.length (Lib.byteCells acc)):(convert src dst v).run P w = .ok (.string ⟨acc.toArray⟩) w:=by
 have hcells:=fun g=>h.cells (g:=g)
 obtain ⟨h1,h2⟩:=h
 rcases h2 with ⟨rfl,h0⟩ | ⟨g,cap,cur,rfl,hg,hh,hn,hcap,hsz,htake⟩
 ·have:acc=[]:=List.eq_nil_of_length_eq_zero h0
  subst this
  exact run_convert_bytes_nil (P:=P) (w:=w) src e hs he 0 0 dst hd
 ·refine run_convert_bytes_back w src dst e ⟨g,0,none⟩ cap acc hs he hd ?_
  intro j hj
  exact hcells g rfl j _ (by simp [Lib.byteCells,hj])
theorem Mill.unq_def (c:UInt8) (r acc:List UInt8):Mill.unq (c::r) acc=if c=34 then some (acc,r) else if Mill.isBare c=true then Mill.unq r (acc++[c]) else if c=92 then
   match r with
   | a::b::r2=>if 0≤Mill.hexOf a∧0≤Mill.hexOf b then Mill.unq r2 (acc++[UInt8.ofNat (16 * Mill.hexOf a+Mill.hexOf b).toNat]) else none
   | _=>none
  else none:=by rw [Mill.unq.eq_def]
theorem Mill.unq_quote (r acc:List UInt8):Mill.unq (34::r) acc=some (acc,r):=by rw [Mill.unq_def,if_pos rfl]
theorem Mill.unq_bare (c:UInt8) (r acc:List UInt8) (h:c≠34) (hb:Mill.isBare c=true):Mill.unq (c::r) acc=Mill.unq r (acc++[c]):=by rw [Mill.unq_def,if_neg h,if_pos hb]
theorem Mill.unq_bad (c:UInt8) (r acc:List UInt8) (h:c≠34) (hb:Mill.isBare c=false) (h9:c≠92):Mill.unq (c::r) acc=none:=by rw [Mill.unq_def,if_neg h,if_neg (by simp [hb]),if_neg h9]
theorem Mill.unq_short (r acc:List UInt8) (h:r.length < 2):Mill.unq (92::r) acc=none:=by
 rw [Mill.unq_def,if_neg (by decide),if_neg (by decide),if_pos rfl]
 match r,h with
 | [],_=>rfl
 | [a],_=>rfl
theorem Mill.unq_hex (a b:UInt8) (r acc:List UInt8):Mill.unq (92::a::b::r) acc=if 0≤Mill.hexOf a∧0≤Mill.hexOf b then Mill.unq r (acc++[UInt8.ofNat (16 * Mill.hexOf a+Mill.hexOf b).toNat]) else none:=by
 rw [Mill.unq_def,if_neg (by decide),if_neg (by decide),if_pos rfl]
theorem Mill.ret_val {v u:Value} (h:v=u):Ending.returned v = .returned u:=by rw [h]
theorem Mill.hex_bd (b:Int) : -1≤Mill.hex b∧Mill.hex b≤15:=by unfold Mill.hex;split <;> (try split) <;> omega
theorem Mill.drop_cons (s:ByteArray) (i:Nat) (h:i < s.size):s.data.toList.drop i=s[i]::s.data.toList.drop (i+1):=by
 rw [List.drop_eq_getElem_cons (by simpa using h)];rfl
theorem Mill.byte_ne (c d:UInt8) (h:((c.toNat:Int) == (d.toNat:Int))=false):c≠d:=by
 intro e;subst e;simp at h
theorem Mill.byte_eq (c d:UInt8) (h:((c.toNat:Int) == (d.toNat:Int))=true):c=d:=by
 simp at h;exact UInt8.toNat_inj.1 (by omega)
theorem Mill.byteCells_snoc (acc:List UInt8) (c:UInt8):Lib.byteCells (acc++[c])=Lib.byteCells acc++[.int .u8 (c.toNat:Int)]:=by simp [Lib.byteCells]
theorem Mill.ofNat_toNat (x:Int) (h0:0≤x) (h1:x≤255):((UInt8.ofNat x.toNat).toNat:Int)=x:=by
 simp;omega
theorem Tryz.infoByte : (Tryz.prog.info? 5).map (fun i=>(i.zero,i.size,i.bytes))=some (some (.int .u8 0),1,1):=by kernel_rfl
theorem l1Hex_byte (c:UInt8) (w:World) :
  Calls Tryz.prog 79 #[.int .u8 (c.toNat:Int)] w fun e w'=>e = .returned (.int .i64 (Mill.hexOf c))∧w=w' :=
 l1Hex_any _ (by omega) (by have:=c.toNat_lt;omega) w
theorem l1Unquote_any (s:ByteArray) (at':Nat) (w:World) (hat:at' < s.size) (hs:s.size≤1048576) :
  Calls Tryz.prog 41 #[.string s,.int .i64 (at':Int)] w fun e w'=>e = .returned (Mill.unqVal s at')∧Below w.heap.size w w':=by
 obtain ⟨i0,hi,hz0,hz1,hz2⟩:=info_parts Tryz.infoByte
 go_enter Tryz.func41,Tryz.ntmps41
 go_wp2
 go_loopw [7,8] (fun v t wr => ∃ (i:Nat) (acc:List UInt8),at' < i∧i≤s.size∧acc.length≤i∧t = .int .i64 (i:Int)∧wr.ownsRow w.heap.size 5 1 v acc.length (Lib.byteCells acc)∧Below w.heap.size w wr∧Mill.unq (s.data.toList.drop i) acc=Mill.unq (s.data.toList.drop (at'+1)) []) (fun _ t _=>s.size - (intOf t).toNat)
 case atStart=>exact ⟨at'+1,[],by omega,by omega,by simp,by go_num,World.ownsRow_made w #[] 0 (Nat.le_refl _) (by decide) rfl,(Below.refl _ _).alloc (Nat.le_refl _) _,rfl⟩
 case round =>
  obtain ⟨i,acc,hi1,hi2,hacc,rfl,hown,hbw,hu⟩:=hrel
  by_cases hlt:i < s.size
  ·rw [Mill.drop_cons s i hlt] at hu
   cases h34:((s[i].toNat:Int) == 34) with
   | true =>
    have e34:s[i]=34:=Mill.byte_eq _ 34 h34
    have HV:Hid (Mill.unqVal s at' = .tuple #[.string ⟨acc.toArray⟩,.int .i64 ((i:Int)+1),.bool true]):=by
     rw [e34,Mill.unq_quote] at hu
     rw [Hid,Mill.unqVal,← hu]
     have:s.size - (s.data.toList.drop (i+1)).length=i+1:=by simp;omega
     simp only [this];rfl
    have hcv:=Mill.conv_own (P:=Tryz.prog) (src:=117) (dst:=9) Tryz.underlying117 Tryz.underlying5 Tryz.underlying9 hown
    clear hu e34
    go_wp2
    go_ret3
    exact ⟨Mill.ret_val HV.out.symm,hbw⟩
   | false =>
    have n34:s[i]≠34:=Mill.byte_ne _ 34 h34
    cases hb:Mill.bare (s[i].toNat:Int) with
    | true =>
     have HU:Hid (Mill.unq (s.data.toList.drop (i+1)) (acc++[s[i]])=Mill.unq (s.data.toList.drop (at'+1)) []):=by
      rw [Mill.unq_bare _ _ _ n34 hb] at hu;exact hu
     clear hu n34
     have hsz:=hbw.size
     go_wp2_with (first
      | (go_at_call 78;refine (l1Bare_any _ _).mono ?_;rintro e w' ⟨rfl,rfl⟩;rw [hb])
      | (at_builtin;refine wpList_append_own _ rfl _ _ 117 rfl w.heap.size 5 i0 (.int .u8 0) 1 1 Tryz.underlying117 hi hz0 hz1 hz2 rfl (by decide) _ _ _ rfl (hown.alloc _) ⟨wr.heap.size,0,none⟩ 1 1 [.int .u8 (s[i].toNat:Int)] rfl rfl (cell_one_new _ _ _) (fun x hx=>by simp at hx;subst hx;rfl) (by unfold maxLen;omega) (by omega) (by simp;omega) ?_;intro v' w3 hown' hgrow3 hnil3))
     have hb3:Below w.heap.size w w3:=Below.grown (hbw.alloc hsz _) hgrow3 (by simp;omega) (fun j hj=>(hown.lt _ hj).1)
     go_roundw
     case rel=>exact ⟨i+1,acc++[s[i]],by omega,by omega,by simp;omega,by go_num,by rw [Mill.byteCells_snoc];simpa using hown',hb3,HU.out⟩
     case measure=>simp [intOf];omega
    | false =>
     cases h92:((s[i].toNat:Int) != 92) with
     | true =>
      have HV:Hid (Mill.unqVal s at' = .tuple #[.string ⟨#[]⟩,.int .i64 (at':Int),.bool false]):=by
       rw [Mill.unq_bad _ _ _ n34 hb (Mill.byte_ne _ 92 (by simpa [bne] using h92))] at hu
       rw [Hid,Mill.unqVal,← hu]
      clear hu n34
      go_wp2_with (go_at_call 78;refine (l1Bare_any _ _).mono ?_;rintro e w' ⟨rfl,rfl⟩;rw [hb])
      go_ret3
      exact ⟨Mill.ret_val HV.out.symm,hbw⟩
     | false =>
      have e92:s[i]=92:=Mill.byte_eq _ 92 (by simpa [bne] using h92)
      rw [e92] at hu
      by_cases h2:i+2 < s.size
      ·rw [Mill.drop_cons s (i+1) (by omega),Mill.drop_cons s (i+1+1) (by omega),Mill.unq_hex] at hu
       have hA : -1≤Mill.hexOf s[i+1]∧Mill.hexOf s[i+1]≤15:=Mill.hex_bd (s[i+1].toNat:Int)
       have hB : -1≤Mill.hexOf s[i+2]∧Mill.hexOf s[i+2]≤15:=Mill.hex_bd (s[i+2].toNat:Int)
       obtain ⟨hA1,hA2⟩:=hA
       obtain ⟨hB1,hB2⟩:=hB
       by_cases hA0:0≤Mill.hexOf s[i+1]
       ·by_cases hB0:0≤Mill.hexOf s[i+2]
        ·have HU:Hid (Mill.unq (s.data.toList.drop (i+3)) (acc++[UInt8.ofNat (16 * Mill.hexOf s[i+1]+Mill.hexOf s[i+2]).toNat])=Mill.unq (s.data.toList.drop (at'+1)) []):=by
          rw [if_pos ⟨hA0,hB0⟩] at hu;exact hu
         clear hu n34 e92
         have hsz:=hbw.size
         go_wp2_with (first
          | (go_at_call 78;refine (l1Bare_any _ _).mono ?_;rintro e w' ⟨rfl,rfl⟩;rw [hb])
          | (go_at_call 79;refine (l1Hex_byte _ _).mono ?_;rintro e w' ⟨rfl,rfl⟩))
         have hw1:IntKind.i64.wrap ((i:Int)+1)=(i:Int)+1:=wrap_small _ (by omega) (by omega)
         have hw2:IntKind.i64.wrap ((i:Int)+2)=(i:Int)+2:=wrap_small _ (by omega) (by omega)
         have hw3:IntKind.i64.wrap (16 * Mill.hexOf s[i+1])=16 * Mill.hexOf s[i+1]:=wrap_small _ (by omega) (by omega)
         have hw4:IntKind.i64.wrap (16 * Mill.hexOf s[i+1]+Mill.hexOf s[i+2])=16 * Mill.hexOf s[i+1]+Mill.hexOf s[i+2]:=wrap_small _ (by omega) (by omega)
         have hw5:IntKind.u8.wrap (16 * Mill.hexOf s[i+1]+Mill.hexOf s[i+2])=16 * Mill.hexOf s[i+1]+Mill.hexOf s[i+2]:=by rw [IntKind.wrap_u8];omega
         have hq1:(0:Int)≤(i:Int)+1:=by omega
         have hq2:(0:Int)≤(i:Int)+2:=by omega
         have hq3:(i:Int)+1 < (s.size:Int):=by omega
         have hq4:(i:Int)+2 < (s.size:Int):=by omega
         have hn1:((i:Int)+1).toNat=i+1:=by omega
         have hn2:((i:Int)+2).toNat=i+2:=by omega
         go_region_law (first
          | (refine Mill.step_append_own rfl (.tmp 64) (.tmp 78) 117 rfl w.heap.size 5 i0 (.int .u8 0) 1 1 Tryz.underlying117 hi hz0 hz1 hz2 rfl (by decide) _ _ _ rfl (by repeat (first | exact hown | apply World.ownsRow.drew | apply World.ownsRow.alloc)) ⟨wr.heap.size,0,none⟩ 1 1 [.int .u8 (16 * Mill.hexOf s[i+1]+Mill.hexOf s[i+2])] rfl rfl (by intro j u hu;exact cell_one_new _ _ _ j u hu) (fun x hx=>by simp at hx;subst hx;rfl) (by unfold maxLen;omega) (by omega) (by simp;omega) ?_;intro v' w3 hown' hgrow3)
          | (go_simp;go_at_call 79;refine (l1Hex_byte _ _).mono ?_;rintro e w' ⟨rfl,rfl⟩))
         all_goals
          have hb3:Below w.heap.size w w3:=Below.grown (by repeat (first | exact hbw | apply Below.drew | (refine Below.alloc ?_ (by simpa using hsz) _))) hgrow3 (by simp;omega) (fun j hj=>(hown.lt _ hj).1)
          have HO:Hid (w3.ownsRow w.heap.size 5 1 v' (acc++[UInt8.ofNat (16 * Mill.hexOf s[i+1]+Mill.hexOf s[i+2]).toNat]).length (Lib.byteCells (acc++[UInt8.ofNat (16 * Mill.hexOf s[i+1]+Mill.hexOf s[i+2]).toNat]))):=by
           rw [Hid,Mill.byteCells_snoc,Mill.ofNat_toNat _ (by omega) (by omega)];simpa using hown'
          clear hown' hgrow3
          go_wp2
          go_roundw
          case rel=>exact ⟨i+3,_,by omega,by omega,by simp;omega,by go_num,HO.out,hb3,HU.out⟩
          case measure=>simp [intOf];omega
        ·have HV:Hid (Mill.unqVal s at' = .tuple #[.string ⟨#[]⟩,.int .i64 (at':Int),.bool false]):=by
          rw [if_neg (by intro h;exact hB0 h.2)] at hu
          rw [Hid,Mill.unqVal,← hu]
         clear hu n34 e92
         go_wp2_with (first
          | (go_at_call 78;refine (l1Bare_any _ _).mono ?_;rintro e w' ⟨rfl,rfl⟩;rw [hb])
          | (go_at_call 79;refine (l1Hex_byte _ _).mono ?_;rintro e w' ⟨rfl,rfl⟩))
         go_ret3
         exact ⟨Mill.ret_val HV.out.symm,hbw⟩
       ·have HV:Hid (Mill.unqVal s at' = .tuple #[.string ⟨#[]⟩,.int .i64 (at':Int),.bool false]):=by
         rw [if_neg (by intro h;exact hA0 h.1)] at hu
         rw [Hid,Mill.unqVal,← hu]
        clear hu n34 e92
        go_wp2_with (first
         | (go_at_call 78;refine (l1Bare_any _ _).mono ?_;rintro e w' ⟨rfl,rfl⟩;rw [hb])
         | (go_at_call 79;refine (l1Hex_byte _ _).mono ?_;rintro e w' ⟨rfl,rfl⟩))
        go_ret3
        exact ⟨Mill.ret_val HV.out.symm,hbw⟩
      ·have HV:Hid (Mill.unqVal s at' = .tuple #[.string ⟨#[]⟩,.int .i64 (at':Int),.bool false]):=by
        rw [Mill.unq_short _ _ (by simp;omega)] at hu
        rw [Hid,Mill.unqVal,← hu]
       clear hu n34 e92
       go_wp2_with (go_at_call 78;refine (l1Bare_any _ _).mono ?_;rintro e w' ⟨rfl,rfl⟩;rw [hb])
       go_ret3
       exact ⟨Mill.ret_val HV.out.symm,hbw⟩
  ·have HV:Hid (Mill.unqVal s at' = .tuple #[.string ⟨#[]⟩,.int .i64 (at':Int),.bool false]):=by
    rw [List.drop_of_length_le (by simp;omega)] at hu
    rw [Hid,Mill.unqVal,← hu];rfl
   clear hu
   go_wp2
   go_ret3
   exact ⟨Mill.ret_val HV.out.symm,hbw⟩
structure Mill.Nd where
 kind:Int
 op:Int
 type:Int
 n:Int
 text:ByteArray
 kids:Int
def Mill.ndC (d:Mill.Nd):List Value:=[.int .i64 d.kind,.int .i64 d.op,.int .i64 d.type,.int .i64 d.n,.string d.text,.int .i64 d.kids]
def Mill.ndV (d:Mill.Nd):Value:=.agg #[.int .i64 d.kind,.int .i64 d.op,.int .i64 d.type,.int .i64 d.n,.string d.text,.int .i64 d.kids]
def Mill.ndCs (l:List Mill.Nd):List Value:=l.flatMap Mill.ndC
def Mill.isE (k:Int):Bool:=decide (1≤k) && decide (k≤9)
def Mill.isS (k:Int):Bool:=decide (10≤k) && decide (k≤20)
def Mill.uOp (k:Int):Bool:=decide (k=5) || decide (k=6) || decide (k=8)
def Mill.uType (k:Int):Bool:=decide (k=1) || decide (k=9) || decide (k=22) || decide (k=23)
def Mill.uN (k:Int):Bool:=decide (k=1) || decide (k=3)
def Mill.named (k:Int):Bool:=decide (k=4) || decide (k=7) || decide (k=10) || decide (k=11) || decide (k=22) || decide (k=23)
def Mill.uText (k:Int):Bool:=decide (k=2) || Mill.named k
theorem l2E_any (b:Int) (w:World) :
  Calls Tryz.prog 52 #[.int .i64 b] w fun e w'=>e = .returned (.bool (Mill.isE b))∧w=w':=by
 go_enter Tryz.func52,Tryz.ntmps52
 go_wp2
 all_goals go_ret
 all_goals exact ⟨by simp [Mill.isE, *] <;> omega,rfl⟩
theorem l2S_any (b:Int) (w:World) :
  Calls Tryz.prog 55 #[.int .i64 b] w fun e w'=>e = .returned (.bool (Mill.isS b))∧w=w':=by
 go_enter Tryz.func55,Tryz.ntmps55
 go_wp2
 all_goals go_ret
 all_goals exact ⟨by simp [Mill.isS, *] <;> omega,rfl⟩
def Mill.usesV (k:Int):Value:=.tuple #[.bool (Mill.uOp k),.bool (Mill.uType k),.bool (Mill.uN k),.bool (Mill.uText k)]
theorem l2Uses_any (b:Int) (w:World) :
  Calls Tryz.prog 47 #[.int .i64 b] w fun e w'=>e = .returned (Mill.usesV b)∧w=w':=by
 go_enter Tryz.func47,Tryz.ntmps47
 go_wp2
 all_goals refine bodyPost_ret (v:=Mill.usesV b) ?_ rfl ⟨rfl,rfl⟩
 all_goals simp_all [results,Tryz.results47,go_sem,Mill.usesV,Mill.uOp,Mill.uType,Mill.uN,Mill.uText,Mill.named]
theorem l2Named_any (b:Int) (w:World) :
  Calls Tryz.prog 48 #[.int .i64 b] w fun e w'=>e = .returned (.bool (Mill.named b))∧w=w':=by
 go_enter Tryz.func48,Tryz.ntmps48
 go_wp2
 all_goals go_ret
 all_goals exact ⟨Mill.ret_bool (by rw [Bool.eq_iff_iff];simp [Mill.named] <;> omega),rfl⟩
def Mill.nameOk (s:ByteArray):Bool:=decide (1≤s.size) && decide (s.size≤30) && (match s.data.toList with | []=>false | b::_=>Mill.letter (b.toNat:Int)) && !Mill.taken s && s.data.toList.all (fun c=>Mill.tail (c.toNat:Int))
theorem Mill.nameOk_size (s:ByteArray) (h:s.size < 1∨30 < s.size):Mill.nameOk s=false:=by
 rcases h with h | h
 ·have h':¬ 1≤s.size:=by omega
  unfold Mill.nameOk;simp only [h',decide_false,Bool.false_and]
 ·have h':¬ s.size≤30:=by omega
  unfold Mill.nameOk;simp only [h',decide_false,Bool.false_and,Bool.and_false]
theorem Mill.nameOk_letter (s:ByteArray) (h:0 < s.size) (hl:Mill.letter (s[0].toNat:Int)=false):Mill.nameOk s=false:=by
 obtain ⟨r,this⟩:∃ r,s.data.toList=s[0]::r:=⟨_,by simpa using Mill.drop_cons s 0 h⟩
 unfold Mill.nameOk;simp only [this,hl,Bool.false_and,Bool.and_false]
theorem Mill.nameOk_taken (s:ByteArray) (h:Mill.taken s=true):Mill.nameOk s=false:=by unfold Mill.nameOk;simp only [h,Bool.not_true,Bool.false_and,Bool.and_false]
theorem Mill.nameOk_rest (s:ByteArray) (h:0 < s.size) (h3:s.size≤30) (hl:Mill.letter (s[0].toNat:Int)=true) (ht:Mill.taken s=false):Mill.nameOk s=s.data.toList.all (fun c=>Mill.tail (c.toNat:Int)):=by
 obtain ⟨r,this⟩:∃ r,s.data.toList=s[0]::r:=⟨_,by simpa using Mill.drop_cons s 0 h⟩
 have h1:1≤s.size:=h
 unfold Mill.nameOk;simp only [this,hl,h1,h3,ht,decide_true,Bool.true_and,Bool.not_false]
theorem l1NameOk_any (s:ByteArray) (w:World) :
  Calls Tryz.prog 49 #[.string s] w fun e w'=>e = .returned (.bool (Mill.nameOk s))∧Below w.heap.size w w':=by
 by_cases h1:0 < s.size
 ·by_cases h2:s.size≤30
  ·cases hl:Mill.letter (s[0].toNat:Int) with
   | false =>
    have HV:Hid (Mill.nameOk s=false):=Mill.nameOk_letter s h1 hl
    go_enter Tryz.func49,Tryz.ntmps49
    go_wp2_with (go_at_call 36;refine (l1Letter_any _ _).mono ?_;rintro e w' ⟨rfl,rfl⟩;rw [hl])
    go_ret
    exact ⟨Mill.ret_bool HV.out.symm,Below.refl _ _⟩
   | true =>
    cases ht:Mill.taken s with
    | true =>
     have HV:Hid (Mill.nameOk s=false):=Mill.nameOk_taken s ht
     go_enter Tryz.func49,Tryz.ntmps49
     go_wp2_with (first | (go_at_call 36;refine (l1Letter_any _ _).mono ?_;rintro e w' ⟨rfl,rfl⟩;rw [hl]) | (go_at_call 39;refine (l1Taken_any _ _).mono ?_;rintro e w1 ⟨rfl,hb⟩;rw [ht]))
     go_ret
     exact ⟨Mill.ret_bool HV.out.symm,hb⟩
    | false =>
     have HV:Hid (Mill.nameOk s=s.data.toList.all (fun c=>Mill.tail (c.toNat:Int))):=Mill.nameOk_rest s h1 h2 hl ht
     go_enter Tryz.func49,Tryz.ntmps49
     go_wp2_with (first | (go_at_call 36;refine (l1Letter_any _ _).mono ?_;rintro e w' ⟨rfl,rfl⟩;rw [hl]) | (go_at_call 39;refine (l1Taken_any _ _).mono ?_;rintro e w1 ⟨rfl,hb⟩;rw [ht]))
     go_loop [3] (fun t => ∃ k:Nat,k≤s.size∧t = .int .i64 (k:Int)∧(s.data.toList.drop k).all (fun c=>Mill.tail (c.toNat:Int))=s.data.toList.all (fun c=>Mill.tail (c.toNat:Int))) (fun t=>s.size - (intOf t).toNat)
     case atStart=>exact ⟨0,by omega,rfl,rfl⟩
     case round =>
      obtain ⟨k,hk,rfl,hf⟩:=hrel
      by_cases hlt:k < s.size
      ·rw [Mill.drop_cons s k hlt,List.all_cons] at hf
       cases hc:Mill.tail (s[k].toNat:Int) with
       | true =>
        have HF:Hid ((s.data.toList.drop (k+1)).all (fun c=>Mill.tail (c.toNat:Int))=s.data.toList.all (fun c=>Mill.tail (c.toNat:Int))):=by rw [hc] at hf;exact hf
        clear hf
        go_wp2_with (go_at_call 38;refine (l1Tail_any _ _).mono ?_;rintro e w' ⟨rfl,rfl⟩;rw [hc])
        go_round
        case rel=>exact ⟨k+1,by omega,by go_num,HF.out⟩
        case measure=>simp [intOf];omega
       | false =>
        have HF:Hid (Mill.nameOk s=false):=by rw [hc] at hf;rw [Hid,HV.out,← hf];rfl
        clear hf
        go_wp2_with (go_at_call 38;refine (l1Tail_any _ _).mono ?_;rintro e w' ⟨rfl,rfl⟩;rw [hc])
        go_ret
        exact ⟨Mill.ret_bool HF.out.symm,hb⟩
      ·have HF:Hid (Mill.nameOk s=true):=by
        rw [List.drop_of_length_le (by simp;omega)] at hf
        rw [Hid,HV.out,← hf];rfl
       clear hf
       go_wp2
       go_ret
       exact ⟨Mill.ret_bool HF.out.symm,hb⟩
  ·have HV:Hid (Mill.nameOk s=false):=Mill.nameOk_size s (.inr (by omega))
   go_enter Tryz.func49,Tryz.ntmps49
   go_wp2
   go_ret
   exact ⟨Mill.ret_bool HV.out.symm,Below.refl _ _⟩
 ·have HV:Hid (Mill.nameOk s=false):=Mill.nameOk_size s (.inl (by omega))
  go_enter Tryz.func49,Tryz.ntmps49
  go_wp2
  go_ret
  exact ⟨Mill.ret_bool HV.out.symm,Below.refl _ _⟩
end Go.Proofs.YtlcckaffhnjneaaGreatDoor
