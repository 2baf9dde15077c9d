import Derived.Test.YtahibkjkpmdhgaaGreatDoorRows
import Derived.WalkKit
import Derived.WalkSpells
import Derived.WalkLawsBesides
import Derived.Lib.UnsafeStr
import Derived.Laws.IdiomStrings
import Derived.Laws.BytesArg
import Derived.Deep.RegionLaw
import Derived.Deep.QuietTactic
import Derived.BigQuiet
set_option maxRecDepth 100000
set_option maxHeartbeats 1000000
namespace Go.Proofs.YtahibkjkpmdhgaaGreatDoor
open Go.RowKit
def C3 (b:Int):Bool:=decide (97<=b) && decide (b<=122)
def Fp (b:Int):Bool:=decide (48<=b) && decide (b<=57)
def Da (b:Int):Bool:=C3 b || Fp b || (b == 95)
def Ij : List (List UInt8):=[[98,111,111,108],[116,101,120,116],[117,56],[117,49,54],[117,51,50],[117,54,52],[105,56],[105,49,54],[105,51,50],[105,54,52]]
def I8 : List (List UInt8):=[[114,101,97,100],[104,97,115],[108,105,115,116],[116,111,111,108],[97,114,103],[108,101,110],[97,116],[99,117,116],[102,105,110,100],[99,104,114],[100,101,99],[110,117,109]]
def Br : List (List UInt8):=[[102,110],[108,101,116],[105,102],[101,108,115,101],[119,104,105,108,101],[98,114,101,97,107],[99,111,110,116,105,110,117,101],[114,101,116,117,114,110],[102,97,105,108],[119,114,105,116,101],[115,97,121],[116,114,117,101],[102,97,108,115,101]]
def Co (t:Int):ByteArray:=if t=1 then ⟨#[98,111,111,108]⟩ else if t=2 then ⟨#[116,101,120,116]⟩ else if t=3 then ⟨#[117,56]⟩ else if t=4 then ⟨#[117,49,54]⟩ else if t=5 then ⟨#[117,51,50]⟩ else if t=6 then ⟨#[117,54,52]⟩ else if t=7 then ⟨#[105,56]⟩ else if t=8 then ⟨#[105,49,54]⟩ else if t=9 then ⟨#[105,51,50]⟩ else if t=10 then ⟨#[105,54,52]⟩ else ⟨#[]⟩
def B6 (t:Int):ByteArray:=if t=1 then ⟨#[114,101,97,100]⟩ else if t=2 then ⟨#[104,97,115]⟩ else if t=3 then ⟨#[108,105,115,116]⟩ else if t=4 then ⟨#[116,111,111,108]⟩ else if t=5 then ⟨#[97,114,103]⟩ else if t=6 then ⟨#[108,101,110]⟩ else if t=7 then ⟨#[97,116]⟩ else if t=8 then ⟨#[99,117,116]⟩ else if t=9 then ⟨#[102,105,110,100]⟩ else if t=10 then ⟨#[99,104,114]⟩ else if t=11 then ⟨#[100,101,99]⟩ else if t=12 then ⟨#[110,117,109]⟩ else ⟨#[]⟩
def Mi (t:Int):Int:=if t=1 then 1 else if t=2 then 1 else if t=3 then 1 else if t=4 then 2 else if t=5 then 0 else if t=6 then 1 else if t=7 then 2 else if t=8 then 3 else if t=9 then 2 else if t=10 then 1 else if t=11 then 1 else if t=12 then 1 else 0
theorem l1Letter_any (b:Int) (w:World) :
  Calls Tryz.prog 165 #[.int .u8 b] w fun e w'=>e = .returned (.bool (C3 b))/\w=w':=by
 go_enter Tryz.func165,Tryz.ntmps165;go_wp2;all_goals go_ret
 all_goals exact⟨by simp[C3, *] <;> omega,rfl⟩
theorem l1Digit_any (b:Int) (w:World) :
  Calls Tryz.prog 180 #[.int .u8 b] w fun e w'=>e = .returned (.bool (Fp b))/\w=w':=by
 go_enter Tryz.func180,Tryz.ntmps180;go_wp2;all_goals go_ret
 all_goals exact⟨by simp[Fp, *] <;> omega,rfl⟩
theorem isLetter_any (b:Int) (w:World) :
  Calls Tryz.prog 169 #[.int .i32 b] w fun e w'=>e = .returned (.bool (C3 b))/\w=w':=by
 go_enter Tryz.func169,Tryz.ntmps169;go_wp2;all_goals go_ret
 all_goals exact⟨by simp[C3, *] <;> omega,rfl⟩
theorem isDigit_any (b:Int) (w:World) :
  Calls Tryz.prog 181 #[.int .i32 b] w fun e w'=>e = .returned (.bool (Fp b))/\w=w':=by
 go_enter Tryz.func181,Tryz.ntmps181;go_wp2;all_goals go_ret
 all_goals exact⟨by simp[Fp, *] <;> omega,rfl⟩
theorem l1Tail_any (b:Int) (w:World) :
  Calls Tryz.prog 167 #[.int .u8 b] w fun e w'=>e = .returned (.bool (Da b))/\w=w':=by
 cases h1:C3 b <;> cases h2:Fp b
 all_goals
  go_enter Tryz.func167,Tryz.ntmps167;go_wp2_with (first|(go_at_call 165;refine(l1Letter_any _ _).mono ?_;rintro e w' ⟨rfl,rfl⟩;rw[h1])|(go_at_call 180;refine(l1Digit_any _ _).mono ?_;rintro e w' ⟨rfl,rfl⟩;rw[h2]));all_goals go_ret
  all_goals exact⟨by simp[Da, *],rfl⟩
theorem l1TypeWord_any (b:Int) (w:World) :
  Calls Tryz.prog 184 #[.int .i64 b] w fun e w'=>e = .returned (.string (Co b))/\w=w':=by
 go_enter Tryz.func184,Tryz.ntmps184;go_wp2;all_goals go_ret
 all_goals exact⟨by simp_all [Co],rfl⟩
theorem l1BuiltWord_any (b:Int) (w:World) :
  Calls Tryz.prog 142 #[.int .i64 b] w fun e w'=>e = .returned (.tuple #[.string (B6 b),.int .i64 (Mi b)])/\w=w':=by
 go_enter Tryz.func142,Tryz.ntmps142;go_wp2;all_goals go_ret2
 all_goals exact⟨by simp_all [B6,Mi],rfl⟩
def F4 (s:ByteArray):Nat->Int->Int
 | 0,_=>0
 | k+1,t=>if ((Co t).toList == s.toList)=true then t else F4 s k (t+1)
def Eh (s:ByteArray):Int:=F4 s 10 1
theorem Ii {k:IntKind} {a b:Int} (h:a=b):Ending.returned (.int k a) = .returned (.int k b):=by rw[h]
theorem Cu {a b:Bool} (h:a=b):Ending.returned (.bool a) = .returned (.bool b):=by rw[h]
theorem l1Type_any (s:ByteArray) (w:World) :
  Calls Tryz.prog 178 #[.string s] w fun e w'=>e = .returned (.int .i64 (Eh s))/\w=w':=by
 go_enter Tryz.func178,Tryz.ntmps178;go_wp2;go_loop [3] (fun t => ∃ k:Nat,k<=10/\t = .int .i64 ((k:Int)+1)/\F4 s (10 - k) ((k:Int)+1)=Eh s) (fun t=>11 - (intOf t).toNat);case atStart=>exact⟨0,by omega,rfl,rfl⟩
 case round =>
  obtain⟨k,g,rfl,a⟩:=hrel;by_cases hlt:k < 10
  ·obtain⟨j,c⟩:∃ j,10 - k=j+1:=⟨9 - k,by omega⟩;by_cases hc:((Co ((k:Int)+1)).toList == s.toList)=true
   ·have b:Hid ((k:Int)+1=Eh s):=(by rw[c,F4,if_pos hc]at a;exact a);clear a c;go_wp2_with (go_at_call 184;refine(l1TypeWord_any _ _).mono ?_;rintro e w' ⟨rfl,rfl⟩);go_ret;exact⟨Ii b.out,rfl⟩
   ·have b:Hid (F4 s (10 - (k+1)) ((k:Int)+1+1)=Eh s):=by
     rw[c,F4,if_neg hc]at a;rw[show 10 - (k+1)=j by omega];exact a
    have f:((Co ((k:Int)+1)).toList == s.toList)=false:=(by simpa using hc);clear a c hc;go_wp2_with (go_at_call 184;refine(l1TypeWord_any _ _).mono ?_;rintro e w' ⟨rfl,rfl⟩);go_round;case rel=>exact⟨k+1,by omega,by go_num,by rw[show ((k+1:Nat):Int)+1=(k:Int)+1+1 by omega];exact b.out⟩
    case measure=>simp[intOf];omega
  ·have d:k=10:=(by omega);subst d;have b:Hid (0=Eh s):=a;clear a;go_wp2;go_ret;exact⟨Ii b.out,rfl⟩
def D7 (s:ByteArray):Nat->Int->Bool
 | 0,_=>false
 | k+1,t=>((B6 t).toList == s.toList) || D7 s k (t+1)
def Li (l:List UInt8):Value:=.string ⟨l.toArray⟩
def Hu : Array Value:=(Br.map Li).toArray
def Dj (s:ByteArray):Bool:=(Eh s != 0) || D7 s 12 1 || Br.any (fun p=>p == s.toList)
theorem l1Plain_any (w:World) :
  Calls Tryz.prog 179 #[] w fun e w'=>e = .returned (.slice (some ⟨w.heap.size,0,none⟩) 13 13)/\w'=w.alloc (.cells Hu 9):=by
 go_enter Tryz.func179,Tryz.ntmps179;go_wp2;go_ret;exact⟨rfl,rfl⟩
theorem Qq (w:World) (k:Nat) (p:List UInt8) (h:Br[k]? = some p):(w.alloc (.cells Hu 9)).cell? ⟨w.heap.size,k,none⟩=some (Li p):=by
 rw[cell_of_row _ _ _ Hu 9 (0,0) (heap_alloc_new w _)];simp[Hu,h]
theorem l1Taken_any (s:ByteArray) (w:World) :
  Calls Tryz.prog 166 #[.string s] w fun e w'=>e = .returned (.bool (Dj s))/\Below w.heap.size w w':=by
 by_cases f:(Eh s != 0)=true
 ·go_enter Tryz.func166,Tryz.ntmps166;go_wp2_with (go_at_call 178;refine(l1Type_any _ _).mono ?_;rintro e w' ⟨rfl,rfl⟩);go_ret;exact⟨by simp[Dj,f],Below.refl _ _⟩
 have q:(Eh s != 0)=false:=by simpa using f
 have m:Hid (Dj s=(D7 s 12 1 || Br.any (fun p=>p == s.toList))):=by simp[Hid,Dj,q]
 clear f;go_enter Tryz.func166,Tryz.ntmps166;go_wp2_with (go_at_call 178;refine(l1Type_any _ _).mono ?_;rintro e w' ⟨rfl,rfl⟩);go_loop [3,4,5] (fun t _ _ => ∃ k:Nat,k<=12/\t = .int .i64 ((k:Int)+1)/\D7 s (12 - k) ((k:Int)+1)=D7 s 12 1) (fun t _ _=>13 - (intOf t).toNat);case atStart=>exact⟨0,by omega,rfl,rfl⟩
 case round =>
  obtain⟨k,r,rfl,a⟩:=hrel;by_cases hlt:k < 12
  ·obtain⟨j,l⟩:∃ j,12 - k=j+1:=⟨11 - k,by omega⟩;by_cases hc:((B6 ((k:Int)+1)).toList == s.toList)=true
   ·have h:Hid (Dj s=true):=(by rw[l,D7,hc]at a;rw[Hid,m.out,<- a];rfl);clear a l;go_wp2_with (go_at_call 142;refine(l1BuiltWord_any _ _).mono ?_;rintro e w' ⟨rfl,rfl⟩);go_ret;exact⟨Cu h.out.symm,Below.refl _ _⟩
   ·have g:((B6 ((k:Int)+1)).toList == s.toList)=false:=(by simpa using hc);have h:Hid (D7 s (12 - (k+1)) ((k:Int)+1+1)=D7 s 12 1):=by
     rw[l,D7,g]at a;rw[show 12 - (k+1)=j by omega];exact a
    clear a l hc;go_wp2_with (go_at_call 142;refine(l1BuiltWord_any _ _).mono ?_;rintro e w' ⟨rfl,rfl⟩);go_round;case rel=>exact⟨k+1,by omega,by go_num,by rw[show ((k+1:Nat):Int)+1=(k:Int)+1+1 by omega];exact h.out⟩
    case measure=>simp[intOf];omega
  ·have f:k=12:=(by omega);subst f;have h:Hid (Dj s=Br.any (fun p=>p == s.toList)):=by
    rw[Hid,m.out,<- a];rfl
   clear a m;have b:=fun k p=>Qq w k p
   go_wp2_with (go_at_call 179;refine(l1Plain_any _).mono ?_;rintro e w' ⟨rfl,rfl⟩);go_loop [7] (fun t => ∃ k:Nat,k<=13/\t = .int .i64 (k:Int)/\(Br.drop k).any (fun p=>p == s.toList)=Br.any (fun p=>p == s.toList)) (fun t=>13 - (intOf t).toNat);case atStart=>exact⟨0,by omega,rfl,rfl⟩
   case round =>
    obtain⟨k,r,rfl,a⟩:=hrel;by_cases hlt:k < 13
    ·have d:k < Br.length:=hlt;have o:Br[k]? = some Br[k]:=List.getElem?_eq_getElem d;have n:Br.drop k=Br[k]::Br.drop (k+1):=List.drop_eq_getElem_cons d;generalize Br[k]=p at *;have i:=b k p o;clear b o;rw[n,List.any_cons]at a;have u:(⟨p.toArray⟩:ByteArray).toList=p:=(by rw[ByteArray.toList_eq]);by_cases hc:(p == s.toList)=true
     ·have c:Hid (Dj s=true):=(by rw[hc]at a;rw[Hid,h.out,<- a];rfl);clear a n;simp only[Li]at i;go_wp2;go_ret;exact⟨Cu c.out.symm,(Below.refl _ _).alloc (Nat.le_refl _) _⟩
     ·have g:(p == s.toList)=false:=(by simpa using hc);have c:Hid ((Br.drop (k+1)).any (fun p=>p == s.toList)=Br.any (fun p=>p == s.toList)):=(by rw[g]at a;exact a);clear a n hc;simp only[Li]at i;go_wp2;go_round;case rel=>exact⟨k+1,by omega,by go_num,c.out⟩
      case measure=>simp[intOf];omega
    ·have f:k=13:=(by omega);subst f;have c:Hid (Dj s=false):=(by rw[Hid,h.out,<- a];rfl);clear a b;go_wp2;go_ret;exact⟨Cu c.out.symm,(Below.refl _ _).alloc (Nat.le_refl _) _⟩
theorem Ok {α:Type} (p:α->Bool):∀ (l:List α) (k:Nat) (h:k < l.length),k<=(l.takeWhile p).length->p l[k]=true->k+1<=(l.takeWhile p).length
 | [],k,h,_,_=>by simp at h
 | a::r,0,_,_,hp=>by simp at hp;simp[hp]
 | a::r,k+1,h,hk,hp=>by
  cases ha:p a with
  | false=>simp[ha]at hk
  | true =>
   simp[ha]at hk |-
   simp at hp
   exact Ok p r k (by simpa using h) hk hp
theorem Ol {α:Type} (p:α->Bool):∀ (l:List α) (k:Nat),k<=(l.takeWhile p).length->(∀ (h:k < l.length),p l[k]=false)->k=(l.takeWhile p).length
 | [],k,hk,_=>by simp at hk;simp[hk]
 | a::r,0,_,hp=>by have:=hp (by simp);simp at this;simp[this]
 | a::r,k+1,hk,hp=>by
  cases ha:p a with
  | false=>simp[ha]at hk
  | true =>
   simp[ha]at hk |-
   exact Ol p r k hk (fun h=>by have:=hp (by simpa using h);simpa using this)
theorem Qas {α:Type} (p:α->Bool) (l:List α):(l.takeWhile p).length<=l.length:=List.Sublist.length_le (List.takeWhile_sublist p)
theorem Jy (s:ByteArray) (i:Nat) (h:i < s.size):s.data.toList.drop i=s[i]::s.data.toList.drop (i+1):=by
 rw[List.drop_eq_getElem_cons (by simpa using h)];rfl
def Bq (s:ByteArray):Bool:=decide (1<=s.size) && decide (s.size<=30) && (match s.data.toList with|[]=>false|b::_=>C3 (b.toNat:Int)) && !Dj s && s.data.toList.all (fun c=>Da (c.toNat:Int))
theorem Ha (s:ByteArray) (h:s.size < 1\/30 < s.size):Bq s=false:=by
 rcases h with h|h
 ·have a:¬ 1<=s.size:=by omega
  unfold Bq;simp only[a,decide_false,Bool.false_and]
 ·have a:¬ s.size<=30:=by omega
  unfold Bq;simp only[a,decide_false,Bool.false_and,Bool.and_false]
theorem Jz (s:ByteArray) (h:0 < s.size) (hl:C3 (s[0].toNat:Int)=false):Bq s=false:=by
 obtain⟨r,a⟩:∃ r,s.data.toList=s[0]::r:=⟨_,by simpa using Jy s 0 h⟩;unfold Bq;simp only[a,hl,Bool.false_and,Bool.and_false]
theorem Kb (s:ByteArray) (h:Dj s=true):Bq s=false:=by unfold Bq;simp only[h,Bool.not_true,Bool.false_and,Bool.and_false]
theorem Kw (s:ByteArray) (h:0 < s.size) (h3:s.size<=30) (hl:C3 (s[0].toNat:Int)=true) (ht:Dj s=false):Bq s=s.data.toList.all (fun c=>Da (c.toNat:Int)):=by
 obtain⟨r,a⟩:∃ r,s.data.toList=s[0]::r:=⟨_,by simpa using Jy s 0 h⟩;have b:1<=s.size:=h;unfold Bq;simp only[a,hl,b,h3,ht,decide_true,Bool.true_and,Bool.not_false]
theorem l1NameOk_any (s:ByteArray) (w:World) :
  Calls Tryz.prog 137 #[.string s] w fun e w'=>e = .returned (.bool (Bq s))/\Below w.heap.size w w':=by
 by_cases h1:0 < s.size
 ·by_cases h2:s.size<=30
  ·cases hl:C3 (s[0].toNat:Int) with
   | false =>
    have a:Hid (Bq s=false):=Jz s h1 hl;go_enter Tryz.func137,Tryz.ntmps137;go_wp2_with (go_at_call 165;refine(l1Letter_any _ _).mono ?_;rintro e w' ⟨rfl,rfl⟩;rw[hl]);go_ret;exact⟨Cu a.out.symm,Below.refl _ _⟩
   | true =>
    cases ht:Dj s with
    | true =>
     have a:Hid (Bq s=false):=Kb s ht;go_enter Tryz.func137,Tryz.ntmps137;go_wp2_with (first|(go_at_call 165;refine(l1Letter_any _ _).mono ?_;rintro e w' ⟨rfl,rfl⟩;rw[hl])|(go_at_call 166;refine(l1Taken_any _ _).mono ?_;rintro e g ⟨rfl,f⟩;rw[ht]));go_ret;exact⟨Cu a.out.symm,f⟩
    | false =>
     have a:Hid (Bq s=s.data.toList.all (fun c=>Da (c.toNat:Int))):=Kw s h1 h2 hl ht;go_enter Tryz.func137,Tryz.ntmps137;go_wp2_with (first|(go_at_call 165;refine(l1Letter_any _ _).mono ?_;rintro e w' ⟨rfl,rfl⟩;rw[hl])|(go_at_call 166;refine(l1Taken_any _ _).mono ?_;rintro e g ⟨rfl,f⟩;rw[ht]));go_loop [3] (fun t => ∃ k:Nat,k<=s.size/\t = .int .i64 (k:Int)/\(s.data.toList.drop k).all (fun c=>Da (c.toNat:Int))=s.data.toList.all (fun c=>Da (c.toNat:Int))) (fun t=>s.size - (intOf t).toNat);case atStart=>exact⟨0,by omega,rfl,rfl⟩
     case round =>
      obtain⟨k,h,rfl,b⟩:=hrel;by_cases hlt:k < s.size
      ·rw[Jy s k hlt,List.all_cons]at b;cases hc:Da (s[k].toNat:Int) with
       | true =>
        have d:Hid ((s.data.toList.drop (k+1)).all (fun c=>Da (c.toNat:Int))=s.data.toList.all (fun c=>Da (c.toNat:Int))):=(by rw[hc]at b;exact b);clear b;go_wp2_with (go_at_call 167;refine(l1Tail_any _ _).mono ?_;rintro e w' ⟨rfl,rfl⟩;rw[hc]);go_round;case rel=>exact⟨k+1,by omega,by go_num,d.out⟩
        case measure=>simp[intOf];omega
       | false =>
        have d:Hid (Bq s=false):=(by rw[hc]at b;rw[Hid,a.out,<- b];rfl);clear b;go_wp2_with (go_at_call 167;refine(l1Tail_any _ _).mono ?_;rintro e w' ⟨rfl,rfl⟩;rw[hc]);go_ret;exact⟨Cu d.out.symm,f⟩
      ·have d:Hid (Bq s=true):=by
        rw[List.drop_of_length_le (by simp;omega)]at b;rw[Hid,a.out,<- b];rfl
       clear b;go_wp2;go_ret;exact⟨Cu d.out.symm,f⟩
  ·have a:Hid (Bq s=false):=Ha s (.inr (by omega));go_enter Tryz.func137,Tryz.ntmps137;go_wp2;go_ret;exact⟨Cu a.out.symm,Below.refl _ _⟩
 ·have a:Hid (Bq s=false):=Ha s (.inl (by omega));go_enter Tryz.func137,Tryz.ntmps137;go_wp2;go_ret;exact⟨Cu a.out.symm,Below.refl _ _⟩
def Be (t:Int):Bool:=decide (3<=t) && decide (t<=10)
def D9 (t:Int):Bool:=decide (7<=t) && decide (t<=10)
def Ek (t:Int):Int:=if t=3\/t=7 then 8 else if t=4\/t=8 then 16 else if t=5\/t=9 then 32 else 64
theorem Kh (t:Int) (w:World) :
  Calls Tryz.prog 115 #[.int .i64 t] w fun e w'=>e = .returned (.bool (Be t))/\w=w':=by
 go_enter Tryz.func115,Tryz.ntmps115;go_wp2;all_goals go_ret
 all_goals exact⟨by simp[Be,decide_eq_true_eq, *] <;> omega,rfl⟩
theorem K5 (t:Int) (w:World) :
  Calls Tryz.prog 145 #[.int .i64 t] w fun e w'=>e = .returned (.bool (D9 t))/\w=w':=by
 go_enter Tryz.func145,Tryz.ntmps145;go_wp2;all_goals go_ret
 all_goals exact⟨by simp[D9,decide_eq_true_eq, *] <;> omega,rfl⟩
theorem Mn (t:Int) (w:World) :
  Calls Tryz.prog 144 #[.int .i64 t] w fun e w'=>e = .returned (.int .i64 (Ek t))/\w=w':=by
 go_enter Tryz.func144,Tryz.ntmps144;go_wp2;all_goals go_ret
 all_goals exact⟨by simp_all [Ek],rfl⟩
def Gd (n:Int) (s:Bool) (b:Int):Int:=if s=true/\n<=2 * (b % n) then b % n - n else b % n
def Aw (t b:Int):Int:=if Ek t=8 then Gd 256 (D9 t) b else if Ek t=16 then Gd 65536 (D9 t) b else if Ek t=32 then Gd 4294967296 (D9 t) b else Gd 18446744073709551616 true b
theorem J1 (x:Int):IntKind.u64.wrap x=x % 18446744073709551616:=by rfl
theorem Er (x:Int):wrap64 x=(x+9223372036854775808) % 18446744073709551616 - 9223372036854775808:=by first|rfl|(unfold wrap64;omega)
theorem Fw {a b:Int} (h:a=b):(Ending.returned (Value.int .i64 a))=Ending.returned (Value.int .i64 b):=by rw[h]
theorem Qby (t:Int):Ek t=8\/Ek t=16\/Ek t=32\/Ek t=64:=by
 unfold Ek;split
 ·exact .inl rfl
 ·split
  ·exact .inr (.inl rfl)
  ·split
   ·exact .inr (.inr (.inl rfl))
   ·exact .inr (.inr (.inr rfl))
theorem Si (t b:Int) (h0:0<=b) (h1:b < 18446744073709551616) (w:World) :
  Calls Tryz.prog 116 #[.int .i64 t,.int .u64 b] w fun e w'=>e = .returned (.int .i64 (Aw t b))/\w=w':=by
 obtain⟨r,g⟩:∃ r,Hid (Aw t b=r):=⟨_,(rfl:Aw t b=_)⟩;rw[g.out];have a:=g.out;unfold Aw Gd at a;rcases Qby t with f|f|f|f
 all_goals
  rw[f]at a;cases hs:D9 t with
  | true =>
   rw[hs]at a;simp at a;have c:Hid _:=a;clear a;go_enter Tryz.func116,Tryz.ntmps116;go_wp2_with (first|(go_at_call 144;refine(Mn _ _).mono ?_;rintro e w' ⟨rfl,rfl⟩;rw[f])|(go_at_call 145;refine(K5 _ _).mono ?_;rintro e w' ⟨rfl,rfl⟩;rw[hs]));all_goals go_ret
   all_goals refine⟨Fw ?_,rfl⟩
   all_goals
    have d:=c.out;first
    | omega
    | (split at d <;> omega)
    | (rw[Er];omega)
    | (rw[Er];split at d <;> omega)
    | (rw[Er,J1];omega)
    | (rw[Er,J1];split at d <;> omega)
  | false =>
   rw[hs]at a;simp at a;have c:Hid _:=a;clear a;go_enter Tryz.func116,Tryz.ntmps116;go_wp2_with (first|(go_at_call 144;refine(Mn _ _).mono ?_;rintro e w' ⟨rfl,rfl⟩;rw[f])|(go_at_call 145;refine(K5 _ _).mono ?_;rintro e w' ⟨rfl,rfl⟩;rw[hs]));all_goals go_ret
   all_goals refine⟨Fw ?_,rfl⟩
   all_goals
    have d:=c.out;first
    | omega
    | (split at d <;> omega)
    | (rw[Er];omega)
    | (rw[Er];split at d <;> omega)
    | (rw[Er,J1];omega)
    | (rw[Er,J1];split at d <;> omega)
structure Dy where
 type:Int
 n:Int
 text:ByteArray
def Qdg (x:Dy):Value:=.agg #[.int .i64 x.type,.int .i64 x.n,.string x.text]
def B7 (n:Int):Int:=n % 18446744073709551616
def A4 (x:Dy):Bool :=
 if x.type=1 then (decide (x.n=0) || decide (x.n=1)) && x.text.toList.isEmpty
 else if x.type=2 then decide (x.n=0) && decide (x.text.size<=3000)
 else Be x.type && x.text.toList.isEmpty && decide (x.n=Aw x.type (B7 x.n))
theorem Zk (n:Int):0<=B7 n/\B7 n < 18446744073709551616:=by unfold B7;omega
theorem H2 {a b:Bool} (h:a=b):Ending.returned (.bool a) = .returned (.bool b):=by rw[h]
theorem Mw {P:Program} {f:FuncId} {args:Array Value} {w:World} {n:Nat} {v:Value}
  (h:Calls P f args (w.drewN n) fun e w'=>e = .returned v/\w.drewN n=w'):Calls P f args (w.drewN n) fun e w''=>e = .returned v/\∃ m,w''=w.drewN m :=
 h.mono fun _ _ ⟨he,hm⟩=>⟨he,n,hm.symm⟩
theorem I9 {B:Nat} {a w:World} (n:Nat) (h:Below B a w):Below B a (w.drewN n):=⟨h.os,h.tape,h.output,h.size,h.block⟩
theorem Is (b:Bool) (t:Int) (h:Hid (Be t=b)) (w:World) :
  Calls Tryz.prog 115 #[.int .i64 t] w fun e w'=>e = .returned (.bool b)/\w=w':=by rw[<- h.out];exact Kh t w
theorem F5 (t n:Int) (x:ByteArray) (w:World) :
  Calls Tryz.prog 86 #[Qdg ⟨t,n,x⟩] w fun e w'=>e = .returned (.bool (A4 ⟨t,n,x⟩))/\Below w.heap.size w w':=by
 obtain⟨r,a⟩:∃ r,Hid (A4 ⟨t,n,x⟩=r):=⟨_,(rfl:A4 ⟨t,n,x⟩=_)⟩;rw[a.out];simp only[Qdg];by_cases h1:t=1
 ·subst h1;go_enter Tryz.func86,Tryz.ntmps86;go_wp2;all_goals go_ret
  all_goals refine⟨H2 ?_,(Below.refl _ w).alloc (Nat.le_refl _) _⟩
  all_goals (rw[<- a.out];simp[A4, *])
 ·by_cases h2:t=2
  ·subst h2;go_enter Tryz.func86,Tryz.ntmps86;go_wp2;all_goals go_ret
   all_goals refine⟨H2 ?_,(Below.refl _ w).alloc (Nat.le_refl _) _⟩
   all_goals (rw[<- a.out];first|(simp[A4, *];done)|(simp[A4, *];omega))
  ·cases hi:Be t with
   | false =>
    have c:Hid (Be t=false):=hi;have b:Hid (false=r):=(by rw[Hid,<- a.out,A4,if_neg h1,if_neg h2,hi];rfl);clear hi;go_enter Tryz.func86,Tryz.ntmps86;go_wp2_with fail;go_quiet (first|(go_at_call 115;refine Mw (Is false _ c _)));go_wp2;go_ret;exact⟨H2 b.out,I9 _ ((Below.refl _ w).alloc (Nat.le_refl _) _)⟩
   | true =>
    have c:Hid (Be t=true):=hi;cases hx:x.toList.isEmpty with
    | false =>
     have b:Hid (false=r):=(by rw[Hid,<- a.out,A4,if_neg h1,if_neg h2,hi,hx];rfl);clear hi;go_enter Tryz.func86,Tryz.ntmps86;go_wp2_with fail;go_quiet (first|(go_at_call 115;refine Mw (Is true _ c _)));go_wp2;go_ret;exact⟨H2 b.out,I9 _ ((Below.refl _ w).alloc (Nat.le_refl _) _)⟩
    | true =>
     have b:Hid (decide (n=Aw t (B7 n))=r):=(by rw[Hid,<- a.out,A4,if_neg h1,if_neg h2,hi,hx];rfl);clear hi;have d:IntKind.u64.wrap n=B7 n:=rfl;go_enter Tryz.func86,Tryz.ntmps86;go_wp2_with fail;go_quiet (first|(go_at_call 115;refine Mw (Is true _ c _))|(go_at_call 116;refine Mw (Si _ _ (Zk n).1 (Zk n).2 _)));go_wp2;go_ret;exact⟨H2 (by rw[<- b.out];rfl),I9 _ ((Below.refl _ w).alloc (Nat.le_refl _) _)⟩
end Go.Proofs.YtahibkjkpmdhgaaGreatDoor
