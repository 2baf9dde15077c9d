import Derived.Test.YtahibkjkpmdhgaaGreatDoorKTk
import Derived.Test.YtahibkjkpmdhgaaGreatDoorRows
import Derived.WalkKit
import Derived.WalkSpells
import Derived.WalkLawsBesides
import Derived.Lib.UnsafeStr
import Derived.Laws.IdiomStrings
import Derived.Laws.BytesArg
import Derived.Deep.RegionLaw
import Derived.Deep.QuietTactic
import Derived.BigQuiet
set_option maxRecDepth 100000
set_option maxHeartbeats 1000000
namespace Go.Proofs.YtahibkjkpmdhgaaGreatDoor
open Go.RowKit
def Df (b:Int):Bool:=decide (97<=b) && decide (b<=122)
def F7 (b:Int):Bool:=decide (48<=b) && decide (b<=57)
def Dm (b:Int):Bool:=Df b || F7 b || (b == 95)
def Jc : List (List UInt8):=[[98,111,111,108],[116,101,120,116],[117,56],[117,49,54],[117,51,50],[117,54,52],[105,56],[105,49,54],[105,51,50],[105,54,52]]
def J7 : List (List UInt8):=[[114,101,97,100],[104,97,115],[108,105,115,116],[116,111,111,108],[97,114,103],[108,101,110],[97,116],[99,117,116],[102,105,110,100],[99,104,114],[100,101,99],[110,117,109]]
def Bs : List (List UInt8):=[[102,110],[108,101,116],[105,102],[101,108,115,101],[119,104,105,108,101],[98,114,101,97,107],[99,111,110,116,105,110,117,101],[114,101,116,117,114,110],[102,97,105,108],[119,114,105,116,101],[115,97,121],[116,114,117,101],[102,97,108,115,101]]
def Cx (t:Int):ByteArray:=if t=1 then ⟨#[98,111,111,108]⟩ else if t=2 then ⟨#[116,101,120,116]⟩ else if t=3 then ⟨#[117,56]⟩ else if t=4 then ⟨#[117,49,54]⟩ else if t=5 then ⟨#[117,51,50]⟩ else if t=6 then ⟨#[117,54,52]⟩ else if t=7 then ⟨#[105,56]⟩ else if t=8 then ⟨#[105,49,54]⟩ else if t=9 then ⟨#[105,51,50]⟩ else if t=10 then ⟨#[105,54,52]⟩ else ⟨#[]⟩
def Ca (t:Int):ByteArray:=if t=1 then ⟨#[114,101,97,100]⟩ else if t=2 then ⟨#[104,97,115]⟩ else if t=3 then ⟨#[108,105,115,116]⟩ else if t=4 then ⟨#[116,111,111,108]⟩ else if t=5 then ⟨#[97,114,103]⟩ else if t=6 then ⟨#[108,101,110]⟩ else if t=7 then ⟨#[97,116]⟩ else if t=8 then ⟨#[99,117,116]⟩ else if t=9 then ⟨#[102,105,110,100]⟩ else if t=10 then ⟨#[99,104,114]⟩ else if t=11 then ⟨#[100,101,99]⟩ else if t=12 then ⟨#[110,117,109]⟩ else ⟨#[]⟩
def N3 (t:Int):Int:=if t=1 then 1 else if t=2 then 1 else if t=3 then 1 else if t=4 then 2 else if t=5 then 0 else if t=6 then 1 else if t=7 then 2 else if t=8 then 3 else if t=9 then 2 else if t=10 then 1 else if t=11 then 1 else if t=12 then 1 else 0
theorem l1Letter_any (b:Int) (w:World) :
  Calls Tryz.prog 165 #[.int .u8 b] w fun e w'=>e = .returned (.bool (Df b))/\w=w':=by
 go_enter Tryz.func165,Tryz.ntmps165;go_wp2;all_goals go_ret
 all_goals exact⟨by simp[Df, *] <;> omega,rfl⟩
theorem l1Digit_any (b:Int) (w:World) :
  Calls Tryz.prog 180 #[.int .u8 b] w fun e w'=>e = .returned (.bool (F7 b))/\w=w':=by
 go_enter Tryz.func180,Tryz.ntmps180;go_wp2;all_goals go_ret
 all_goals exact⟨by simp[F7, *] <;> omega,rfl⟩
theorem isLetter_any (b:Int) (w:World) :
  Calls Tryz.prog 169 #[.int .i32 b] w fun e w'=>e = .returned (.bool (Df b))/\w=w':=by
 go_enter Tryz.func169,Tryz.ntmps169;go_wp2;all_goals go_ret
 all_goals exact⟨by simp[Df, *] <;> omega,rfl⟩
theorem isDigit_any (b:Int) (w:World) :
  Calls Tryz.prog 181 #[.int .i32 b] w fun e w'=>e = .returned (.bool (F7 b))/\w=w':=by
 go_enter Tryz.func181,Tryz.ntmps181;go_wp2;all_goals go_ret
 all_goals exact⟨by simp[F7, *] <;> omega,rfl⟩
theorem l1Tail_any (b:Int) (w:World) :
  Calls Tryz.prog 167 #[.int .u8 b] w fun e w'=>e = .returned (.bool (Dm b))/\w=w':=by
 cases h1:Df b <;> cases h2:F7 b
 all_goals
  go_enter Tryz.func167,Tryz.ntmps167;go_wp2_with (first|(go_at_call 165;refine(l1Letter_any _ _).mono ?_;rintro e w' ⟨rfl,rfl⟩;rw[h1])|(go_at_call 180;refine(l1Digit_any _ _).mono ?_;rintro e w' ⟨rfl,rfl⟩;rw[h2]));all_goals go_ret
  all_goals exact⟨by simp[Dm, *],rfl⟩
theorem l1TypeWord_any (b:Int) (w:World) :
  Calls Tryz.prog 184 #[.int .i64 b] w fun e w'=>e = .returned (.string (Cx b))/\w=w':=by
 go_enter Tryz.func184,Tryz.ntmps184;go_wp2;all_goals go_ret
 all_goals exact⟨by simp_all [Cx],rfl⟩
theorem l1BuiltWord_any (b:Int) (w:World) :
  Calls Tryz.prog 142 #[.int .i64 b] w fun e w'=>e = .returned (.tuple #[.string (Ca b),.int .i64 (N3 b)])/\w=w':=by
 go_enter Tryz.func142,Tryz.ntmps142;go_wp2;all_goals go_ret2
 all_goals exact⟨by simp_all [Ca,N3],rfl⟩
def Gq (s:ByteArray):Nat->Int->Int
 | 0,_=>0
 | k+1,t=>if ((Cx t).toList == s.toList)=true then t else Gq s k (t+1)
def Ev (s:ByteArray):Int:=Gq s 10 1
theorem Ja {k:IntKind} {a b:Int} (h:a=b):Ending.returned (.int k a) = .returned (.int k b):=by rw[h]
theorem C2 {a b:Bool} (h:a=b):Ending.returned (.bool a) = .returned (.bool b):=by rw[h]
theorem l1Type_any (s:ByteArray) (w:World) :
  Calls Tryz.prog 178 #[.string s] w fun e w'=>e = .returned (.int .i64 (Ev s))/\w=w':=by
 go_enter Tryz.func178,Tryz.ntmps178;go_wp2;go_loop [3] (fun t => ∃ k:Nat,k<=10/\t = .int .i64 ((k:Int)+1)/\Gq s (10 - k) ((k:Int)+1)=Ev s) (fun t=>11 - (intOf t).toNat);case atStart=>exact⟨0,by omega,rfl,rfl⟩
 case round =>
  obtain⟨k,g,rfl,a⟩:=hrel;by_cases hlt:k < 10
  ·obtain⟨j,c⟩:∃ j,10 - k=j+1:=⟨9 - k,by omega⟩;by_cases hc:((Cx ((k:Int)+1)).toList == s.toList)=true
   ·have b:Hid ((k:Int)+1=Ev s):=(by rw[c,Gq,if_pos hc]at a;exact a);clear a c;go_wp2_with (go_at_call 184;refine(l1TypeWord_any _ _).mono ?_;rintro e w' ⟨rfl,rfl⟩);go_ret;exact⟨Ja b.out,rfl⟩
   ·have b:Hid (Gq s (10 - (k+1)) ((k:Int)+1+1)=Ev s):=by
     rw[c,Gq,if_neg hc]at a;rw[show 10 - (k+1)=j by omega];exact a
    have f:((Cx ((k:Int)+1)).toList == s.toList)=false:=(by simpa using hc);clear a c hc;go_wp2_with (go_at_call 184;refine(l1TypeWord_any _ _).mono ?_;rintro e w' ⟨rfl,rfl⟩);go_round;case rel=>exact⟨k+1,by omega,by go_num,by rw[show ((k+1:Nat):Int)+1=(k:Int)+1+1 by omega];exact b.out⟩
    case measure=>simp[intOf];omega
  ·have d:k=10:=Ou;subst d;have b:Hid (0=Ev s):=a;clear a;go_wp2;go_ret;exact⟨Ja b.out,rfl⟩
def Ek (s:ByteArray):Nat->Int->Bool
 | 0,_=>false
 | k+1,t=>((Ca t).toList == s.toList) || Ek s k (t+1)
def Mp (l:List UInt8):Value:=.string ⟨l.toArray⟩
def Ik : Array Value:=(Bs.map Mp).toArray
def Dx (s:ByteArray):Bool:=(Ev s != 0) || Ek s 12 1 || Bs.any (fun p=>p == s.toList)
theorem l1Plain_any (w:World) :
  Calls Tryz.prog 179 #[] w fun e w'=>e = .returned (.slice (some (OK w 0)) 13 13)/\w'=w.alloc (.cells Ik 9):=by
 go_enter Tryz.func179,Tryz.ntmps179;go_wp2;go_ret;exact⟨rfl,rfl⟩
theorem Te (w:World) (k:Nat) (p:List UInt8) (h:Bs[k]? = some p):(w.alloc (.cells Ik 9)).cell? (OK w k)=some (Mp p):=by
 rw[cell_of_row _ _ _ Ik 9 (0,0) (heap_alloc_new w _)];simp[Ik,h]
theorem l1Taken_any (s:ByteArray) (w:World) :
  Calls Tryz.prog 166 #[.string s] w fun e w'=>e = .returned (.bool (Dx s))/\OH w w':=by
 by_cases f:(Ev s != 0)=true
 ·go_enter Tryz.func166,Tryz.ntmps166;go_wp2_with (go_at_call 178;refine(l1Type_any _ _).mono ?_;rintro e w' ⟨rfl,rfl⟩);go_ret;exact⟨by simp[Dx,f],Below.refl _ _⟩
 have q:(Ev s != 0)=false:=by simpa using f
 have m:Hid (Dx s=(Ek s 12 1 || Bs.any (fun p=>p == s.toList))):=by simp[Hid,Dx,q]
 clear f;go_enter Tryz.func166,Tryz.ntmps166;go_wp2_with (go_at_call 178;refine(l1Type_any _ _).mono ?_;rintro e w' ⟨rfl,rfl⟩);go_loop [3,4,5] (fun t _ _ => ∃ k:Nat,k<=12/\t = .int .i64 ((k:Int)+1)/\Ek s (12 - k) ((k:Int)+1)=Ek s 12 1) (fun t _ _=>13 - (intOf t).toNat);case atStart=>exact⟨0,by omega,rfl,rfl⟩
 case round =>
  obtain⟨k,r,rfl,a⟩:=hrel;by_cases hlt:k < 12
  ·obtain⟨j,l⟩:∃ j,12 - k=j+1:=⟨11 - k,by omega⟩;by_cases hc:((Ca ((k:Int)+1)).toList == s.toList)=true
   ·have h:Hid (Dx s=true):=(by rw[l,Ek,hc]at a;rw[Hid,m.out,<- a];rfl);clear a l;go_wp2_with (go_at_call 142;refine(l1BuiltWord_any _ _).mono ?_;rintro e w' ⟨rfl,rfl⟩);go_ret;exact⟨C2 h.out.symm,Below.refl _ _⟩
   ·have g:((Ca ((k:Int)+1)).toList == s.toList)=false:=(by simpa using hc);have h:Hid (Ek s (12 - (k+1)) ((k:Int)+1+1)=Ek s 12 1):=by
     rw[l,Ek,g]at a;rw[show 12 - (k+1)=j by omega];exact a
    clear a l hc;go_wp2_with (go_at_call 142;refine(l1BuiltWord_any _ _).mono ?_;rintro e w' ⟨rfl,rfl⟩);go_round;case rel=>exact⟨k+1,by omega,by go_num,by rw[show ((k+1:Nat):Int)+1=(k:Int)+1+1 by omega];exact h.out⟩
    case measure=>simp[intOf];omega
  ·have f:k=12:=Ou;subst f;have h:Hid (Dx s=Bs.any (fun p=>p == s.toList)):=by
    rw[Hid,m.out,<- a];rfl
   clear a m;have b:=fun k p=>Te w k p
   go_wp2_with (go_at_call 179;refine(l1Plain_any _).mono ?_;rintro e w' ⟨rfl,rfl⟩);go_loop [7] (fun t => ∃ k:Nat,k<=13/\t = .int .i64 (k:Int)/\(Bs.drop k).any (fun p=>p == s.toList)=Bs.any (fun p=>p == s.toList)) (fun t=>13 - (intOf t).toNat);case atStart=>exact⟨0,by omega,rfl,rfl⟩
   case round =>
    obtain⟨k,r,rfl,a⟩:=hrel;by_cases hlt:k < 13
    ·have d:k < Bs.length:=hlt;have o:Bs[k]? = some Bs[k]:=List.getElem?_eq_getElem d;have n:Bs.drop k=Bs[k]::Bs.drop (k+1):=List.drop_eq_getElem_cons d;generalize Bs[k]=p at *;have i:=b k p o;clear b o;rw[n,List.any_cons]at a;have u:(⟨p.toArray⟩:ByteArray).toList=p:=(by rw[ByteArray.toList_eq]);by_cases hc:(p == s.toList)=true
     ·have c:Hid (Dx s=true):=(by rw[hc]at a;rw[Hid,h.out,<- a];rfl);clear a n;simp only[Mp]at i;go_wp2;go_ret;exact⟨C2 c.out.symm,(Below.refl _ _).alloc (Nat.le_refl _) _⟩
     ·have g:(p == s.toList)=false:=(by simpa using hc);have c:Hid ((Bs.drop (k+1)).any (fun p=>p == s.toList)=Bs.any (fun p=>p == s.toList)):=(by rw[g]at a;exact a);clear a n hc;simp only[Mp]at i;go_wp2;go_round;case rel=>exact⟨k+1,by omega,by go_num,c.out⟩
      case measure=>simp[intOf];omega
    ·have f:k=13:=Ou;subst f;have c:Hid (Dx s=false):=(by rw[Hid,h.out,<- a];rfl);clear a b;go_wp2;go_ret;exact⟨C2 c.out.symm,(Below.refl _ _).alloc (Nat.le_refl _) _⟩
theorem Qk {α:Type} (p:α->Bool):∀ (l:List α) (k:Nat) (h:k < l.length),k<=(l.takeWhile p).length->p l[k]=true->k+1<=(l.takeWhile p).length
 | [],k,h,_,_=>by simp at h
 | a::r,0,_,_,hp=>by simp at hp;simp[hp]
 | a::r,k+1,h,hk,hp=>by
  cases ha:p a with
  | false=>simp[ha]at hk
  | true =>
   simp[ha]at hk |-
   simp at hp
   exact Qk p r k (by simpa using h) hk hp
theorem Ql {α:Type} (p:α->Bool):∀ (l:List α) (k:Nat),k<=(l.takeWhile p).length->(∀ (h:k < l.length),p l[k]=false)->k=(l.takeWhile p).length
 | [],k,hk,_=>by simp at hk;simp[hk]
 | a::r,0,_,hp=>by have:=hp OB;simp at this;simp[this]
 | a::r,k+1,hk,hp=>by
  cases ha:p a with
  | false=>simp[ha]at hk
  | true =>
   simp[ha]at hk |-
   exact Ql p r k hk (fun h=>by have:=hp (by simpa using h);simpa using this)
theorem Qdx {α:Type} (p:α->Bool) (l:List α):(l.takeWhile p).length<=l.length:=List.Sublist.length_le (List.takeWhile_sublist p)
theorem K6 (s:ByteArray) (i:Nat) (h:i < s.size):s.data.toList.drop i=s[i]::s.data.toList.drop (i+1):=by
 rw[List.drop_eq_getElem_cons (by simpa using h)];rfl
def Br (s:ByteArray):Bool:=decide (1<=s.size) && decide (s.size<=30) && (match s.data.toList with|[]=>false|b::_=>Df (b.toNat:Int)) && !Dx s && s.data.toList.all (fun c=>Dm (c.toNat:Int))
theorem Hz (s:ByteArray) (h:s.size < 1\/30 < s.size):Br s=false:=by
 rcases h with h|h
 ·have a:¬ 1<=s.size:=Ou
  unfold Br;simp only[a,decide_false,Bool.false_and]
 ·have a:¬ s.size<=30:=Ou
  unfold Br;simp only[a,decide_false,Bool.false_and,Bool.and_false]
theorem K7 (s:ByteArray) (h:0 < s.size) (hl:Df (s[0].toNat:Int)=false):Br s=false:=by
 obtain⟨r,a⟩:∃ r,s.data.toList=s[0]::r:=⟨_,by simpa using K6 s 0 h⟩;unfold Br;simp only[a,hl,Bool.false_and,Bool.and_false]
theorem Li (s:ByteArray) (h:Dx s=true):Br s=false:=by unfold Br;simp only[h,Bool.not_true,Bool.false_and,Bool.and_false]
theorem L3 (s:ByteArray) (h:0 < s.size) (h3:s.size<=30) (hl:Df (s[0].toNat:Int)=true) (ht:Dx s=false):Br s=s.data.toList.all (fun c=>Dm (c.toNat:Int)):=by
 obtain⟨r,a⟩:∃ r,s.data.toList=s[0]::r:=⟨_,by simpa using K6 s 0 h⟩;have b:1<=s.size:=h;unfold Br;simp only[a,hl,b,h3,ht,decide_true,Bool.true_and,Bool.not_false]
theorem l1NameOk_any (s:ByteArray) (w:World) :
  Calls Tryz.prog 137 #[.string s] w fun e w'=>e = .returned (.bool (Br s))/\OH w w':=by
 by_cases h1:0 < s.size
 ·by_cases h2:s.size<=30
  ·cases hl:Df (s[0].toNat:Int) with
   | false =>
    have a:Hid (Br s=false):=K7 s h1 hl;go_enter Tryz.func137,Tryz.ntmps137;go_wp2_with (go_at_call 165;refine(l1Letter_any _ _).mono ?_;rintro e w' ⟨rfl,rfl⟩;rw[hl]);go_ret;exact⟨C2 a.out.symm,Below.refl _ _⟩
   | true =>
    cases ht:Dx s with
    | true =>
     have a:Hid (Br s=false):=Li s ht;go_enter Tryz.func137,Tryz.ntmps137;go_wp2_with (first|(go_at_call 165;refine(l1Letter_any _ _).mono ?_;rintro e w' ⟨rfl,rfl⟩;rw[hl])|(go_at_call 166;refine(l1Taken_any _ _).mono ?_;rintro e g ⟨rfl,f⟩;rw[ht]));go_ret;exact⟨C2 a.out.symm,f⟩
    | false =>
     have a:Hid (Br s=s.data.toList.all (fun c=>Dm (c.toNat:Int))):=L3 s h1 h2 hl ht;go_enter Tryz.func137,Tryz.ntmps137;go_wp2_with (first|(go_at_call 165;refine(l1Letter_any _ _).mono ?_;rintro e w' ⟨rfl,rfl⟩;rw[hl])|(go_at_call 166;refine(l1Taken_any _ _).mono ?_;rintro e g ⟨rfl,f⟩;rw[ht]));go_loop [3] (fun t => ∃ k:Nat,k<=s.size/\t = .int .i64 (k:Int)/\(s.data.toList.drop k).all (fun c=>Dm (c.toNat:Int))=s.data.toList.all (fun c=>Dm (c.toNat:Int))) (fun t=>s.size - (intOf t).toNat);case atStart=>exact⟨0,by omega,rfl,rfl⟩
     case round =>
      obtain⟨k,h,rfl,b⟩:=hrel;by_cases hlt:k < s.size
      ·rw[K6 s k hlt,List.all_cons]at b;cases hc:Dm (s[k].toNat:Int) with
       | true =>
        have d:Hid ((s.data.toList.drop (k+1)).all (fun c=>Dm (c.toNat:Int))=s.data.toList.all (fun c=>Dm (c.toNat:Int))):=(by rw[hc]at b;exact b);clear b;go_wp2_with (go_at_call 167;refine(l1Tail_any _ _).mono ?_;rintro e w' ⟨rfl,rfl⟩;rw[hc]);go_round;case rel=>exact⟨k+1,by omega,by go_num,d.out⟩
        case measure=>simp[intOf];omega
       | false =>
        have d:Hid (Br s=false):=(by rw[hc]at b;rw[Hid,a.out,<- b];rfl);clear b;go_wp2_with (go_at_call 167;refine(l1Tail_any _ _).mono ?_;rintro e w' ⟨rfl,rfl⟩;rw[hc]);go_ret;exact⟨C2 d.out.symm,f⟩
      ·have d:Hid (Br s=true):=by
        rw[List.drop_of_length_le OD]at b;rw[Hid,a.out,<- b];rfl
       clear b;go_wp2;go_ret;exact⟨C2 d.out.symm,f⟩
  ·have a:Hid (Br s=false):=Hz s (.inr Ou);go_enter Tryz.func137,Tryz.ntmps137;go_wp2;go_ret;exact⟨C2 a.out.symm,Below.refl _ _⟩
 ·have a:Hid (Br s=false):=Hz s (.inl Ou);go_enter Tryz.func137,Tryz.ntmps137;go_wp2;go_ret;exact⟨C2 a.out.symm,Below.refl _ _⟩
def Bc (t:Int):Bool:=decide (3<=t) && decide (t<=10)
def Em (t:Int):Bool:=decide (7<=t) && decide (t<=10)
def Ex (t:Int):Int:=if t=3\/t=7 then 8 else if t=4\/t=8 then 16 else if t=5\/t=9 then 32 else 64
theorem Lq (t:Int) (w:World) :
  Calls Tryz.prog 115 #[.int .i64 t] w fun e w'=>e = .returned (.bool (Bc t))/\w=w':=by
 go_enter Tryz.func115,Tryz.ntmps115;go_wp2;all_goals go_ret
 all_goals exact⟨by simp[Bc,decide_eq_true_eq, *] <;> omega,rfl⟩
theorem L9 (t:Int) (w:World) :
  Calls Tryz.prog 145 #[.int .i64 t] w fun e w'=>e = .returned (.bool (Em t))/\w=w':=by
 go_enter Tryz.func145,Tryz.ntmps145;go_wp2;all_goals go_ret
 all_goals exact⟨by simp[Em,decide_eq_true_eq, *] <;> omega,rfl⟩
theorem N9 (t:Int) (w:World) :
  Calls Tryz.prog 144 #[.int .i64 t] w fun e w'=>e = .returned (.int .i64 (Ex t))/\w=w':=by
 go_enter Tryz.func144,Tryz.ntmps144;go_wp2;all_goals go_ret
 all_goals exact⟨by simp_all [Ex],rfl⟩
def G2 (n:Int) (s:Bool) (b:Int):Int:=if s=true/\n<=2 * (b % n) then b % n - n else b % n
def Ay (t b:Int):Int:=if Ex t=8 then G2 256 (Em t) b else if Ex t=16 then G2 65536 (Em t) b else if Ex t=32 then G2 4294967296 (Em t) b else G2 18446744073709551616 true b
theorem K9 (x:Int):IntKind.u64.wrap x=x % 18446744073709551616:=by rfl
theorem E6 (x:Int):wrap64 x=(x+9223372036854775808) % 18446744073709551616 - 9223372036854775808:=by first|rfl|(unfold wrap64;omega)
theorem Gg {a b:Int} (h:a=b):(Ending.returned (Value.int .i64 a))=Ending.returned (Value.int .i64 b):=by rw[h]
theorem Qfc (t:Int):Ex t=8\/Ex t=16\/Ex t=32\/Ex t=64:=by
 unfold Ex;split
 ·exact .inl rfl
 ·split
  ·exact .inr (.inl rfl)
  ·split
   ·exact .inr (.inr (.inl rfl))
   ·exact .inr (.inr (.inr rfl))
theorem Vo (t b:Int) (h0:0<=b) (h1:b < 18446744073709551616) (w:World) :
  Calls Tryz.prog 116 #[.int .i64 t,.int .u64 b] w fun e w'=>e = .returned (.int .i64 (Ay t b))/\w=w':=by
 obtain⟨r,g⟩:∃ r,Hid (Ay t b=r):=⟨_,(rfl:Ay t b=_)⟩;rw[g.out];have a:=g.out;unfold Ay G2 at a;rcases Qfc t with f|f|f|f
 all_goals
  rw[f]at a;cases hs:Em t with
  | true =>
   rw[hs]at a;simp at a;have c:Hid _:=a;clear a;go_enter Tryz.func116,Tryz.ntmps116;go_wp2_with (first|(go_at_call 144;refine(N9 _ _).mono ?_;rintro e w' ⟨rfl,rfl⟩;rw[f])|(go_at_call 145;refine(L9 _ _).mono ?_;rintro e w' ⟨rfl,rfl⟩;rw[hs]));all_goals go_ret
   all_goals refine⟨Gg ?_,rfl⟩
   all_goals
    have d:=c.out;first
    | omega
    | (split at d <;> omega)
    | (rw[E6];omega)
    | (rw[E6];split at d <;> omega)
    | (rw[E6,K9];omega)
    | (rw[E6,K9];split at d <;> omega)
  | false =>
   rw[hs]at a;simp at a;have c:Hid _:=a;clear a;go_enter Tryz.func116,Tryz.ntmps116;go_wp2_with (first|(go_at_call 144;refine(N9 _ _).mono ?_;rintro e w' ⟨rfl,rfl⟩;rw[f])|(go_at_call 145;refine(L9 _ _).mono ?_;rintro e w' ⟨rfl,rfl⟩;rw[hs]));all_goals go_ret
   all_goals refine⟨Gg ?_,rfl⟩
   all_goals
    have d:=c.out;first
    | omega
    | (split at d <;> omega)
    | (rw[E6];omega)
    | (rw[E6];split at d <;> omega)
    | (rw[E6,K9];omega)
    | (rw[E6,K9];split at d <;> omega)
structure Ea where
 type:Int
 n:Int
 text:ByteArray
def Qg3 (x:Ea):Value:=.agg #[.int .i64 x.type,.int .i64 x.n,.string x.text]
def Cb (n:Int):Int:=n % 18446744073709551616
def A4 (x:Ea):Bool :=
 if x.type=1 then (decide (x.n=0) || decide (x.n=1)) && x.text.toList.isEmpty
 else if x.type=2 then decide (x.n=0) && decide (x.text.size<=3000)
 else Bc x.type && x.text.toList.isEmpty && decide (x.n=Ay x.type (Cb x.n))
theorem Qcr (n:Int):0<=Cb n/\Cb n < 18446744073709551616:=by unfold Cb;omega
theorem Iz {a b:Bool} (h:a=b):Ending.returned (.bool a) = .returned (.bool b):=by rw[h]
theorem Om {P:Program} {f:FuncId} {args:Array Value} {w:World} {n:Nat} {v:Value}
  (h:Calls P f args (w.drewN n) fun e w'=>e = .returned v/\w.drewN n=w'):Calls P f args (w.drewN n) fun e w''=>e = .returned v/\∃ m,w''=w.drewN m :=
 h.mono fun _ _ ⟨he,hm⟩=>⟨he,n,hm.symm⟩
theorem J8 {B:Nat} {a w:World} (n:Nat) (h:Below B a w):Below B a (w.drewN n):=⟨h.os,h.tape,h.output,h.size,h.block⟩
theorem Jo (b:Bool) (t:Int) (h:Hid (Bc t=b)) (w:World) :
  Calls Tryz.prog 115 #[.int .i64 t] w fun e w'=>e = .returned (.bool b)/\w=w':=by rw[<- h.out];exact Lq t w
theorem Gr (t n:Int) (x:ByteArray) (w:World) :
  Calls Tryz.prog 86 #[Qg3 ⟨t,n,x⟩] w fun e w'=>e = .returned (.bool (A4 ⟨t,n,x⟩))/\OH w w':=by
 obtain⟨r,a⟩:∃ r,Hid (A4 ⟨t,n,x⟩=r):=⟨_,(rfl:A4 ⟨t,n,x⟩=_)⟩;rw[a.out];simp only[Qg3];by_cases h1:t=1
 ·subst h1;go_enter Tryz.func86,Tryz.ntmps86;go_wp2;all_goals go_ret
  all_goals refine⟨Iz ?_,(Below.refl _ w).alloc (Nat.le_refl _) _⟩
  all_goals (rw[<- a.out];simp[A4, *])
 ·by_cases h2:t=2
  ·subst h2;go_enter Tryz.func86,Tryz.ntmps86;go_wp2;all_goals go_ret
   all_goals refine⟨Iz ?_,(Below.refl _ w).alloc (Nat.le_refl _) _⟩
   all_goals (rw[<- a.out];first|(simp[A4, *];done)|(simp[A4, *];omega))
  ·cases hi:Bc t with
   | false =>
    have c:Hid (Bc t=false):=hi;have b:Hid (false=r):=(by rw[Hid,<- a.out,A4,if_neg h1,if_neg h2,hi];rfl);clear hi;go_enter Tryz.func86,Tryz.ntmps86;go_wp2_with fail;go_quiet (first|(go_at_call 115;refine Om (Jo false _ c _)));go_wp2;go_ret;exact⟨Iz b.out,J8 _ ((Below.refl _ w).alloc (Nat.le_refl _) _)⟩
   | true =>
    have c:Hid (Bc t=true):=hi;cases hx:x.toList.isEmpty with
    | false =>
     have b:Hid (false=r):=(by rw[Hid,<- a.out,A4,if_neg h1,if_neg h2,hi,hx];rfl);clear hi;go_enter Tryz.func86,Tryz.ntmps86;go_wp2_with fail;go_quiet (first|(go_at_call 115;refine Om (Jo true _ c _)));go_wp2;go_ret;exact⟨Iz b.out,J8 _ ((Below.refl _ w).alloc (Nat.le_refl _) _)⟩
    | true =>
     have b:Hid (decide (n=Ay t (Cb n))=r):=(by rw[Hid,<- a.out,A4,if_neg h1,if_neg h2,hi,hx];rfl);clear hi;have d:IntKind.u64.wrap n=Cb n:=rfl;go_enter Tryz.func86,Tryz.ntmps86;go_wp2_with fail;go_quiet (first|(go_at_call 115;refine Om (Jo true _ c _))|(go_at_call 116;refine Om (Vo _ _ (Qcr n).1 (Qcr n).2 _)));go_wp2;go_ret;exact⟨Iz (by rw[<- b.out];rfl),J8 _ ((Below.refl _ w).alloc (Nat.le_refl _) _)⟩
end Go.Proofs.YtahibkjkpmdhgaaGreatDoor
