import Derived.Test.YtfjkahdghhbpnaaGreatDoorRows
import Derived.WalkKit
import Derived.WalkSpells
import Derived.WalkLawsBesides
import Derived.Lib.UnsafeStr
import Derived.Laws.IdiomStrings
import Derived.Laws.BytesArg
import Derived.Deep.RegionLaw
import Derived.Deep.QuietTactic
import Derived.BigQuiet
set_option maxRecDepth 100000
set_option maxHeartbeats 1000000
namespace Go.Proofs.YtfjkahdghhbpnaaGreatDoor
open Go.RowKit
def C7 (b:Int):Bool:=decide (97<=b) && decide (b<=122)
def Fa (b:Int):Bool:=decide (48<=b) && decide (b<=57)
def Da (b:Int):Bool:=C7 b || Fa b || (b == 95)
def Ib : List (List UInt8):=[[98,111,111,108],[116,101,120,116],[117,56],[117,49,54],[117,51,50],[117,54,52],[105,56],[105,49,54],[105,51,50],[105,54,52]]
def I7 : List (List UInt8):=[[114,101,97,100],[104,97,115],[108,105,115,116],[116,111,111,108],[97,114,103],[108,101,110],[97,116],[99,117,116],[102,105,110,100],[99,104,114],[100,101,99],[110,117,109]]
def Bu : List (List UInt8):=[[102,110],[108,101,116],[105,102],[101,108,115,101],[119,104,105,108,101],[98,114,101,97,107],[99,111,110,116,105,110,117,101],[114,101,116,117,114,110],[102,97,105,108],[119,114,105,116,101],[115,97,121],[116,114,117,101],[102,97,108,115,101]]
def Cr (t:Int):ByteArray:=if t=1 then ⟨#[98,111,111,108]⟩ else if t=2 then ⟨#[116,101,120,116]⟩ else if t=3 then ⟨#[117,56]⟩ else if t=4 then ⟨#[117,49,54]⟩ else if t=5 then ⟨#[117,51,50]⟩ else if t=6 then ⟨#[117,54,52]⟩ else if t=7 then ⟨#[105,56]⟩ else if t=8 then ⟨#[105,49,54]⟩ else if t=9 then ⟨#[105,51,50]⟩ else if t=10 then ⟨#[105,54,52]⟩ else ⟨#[]⟩
def B9 (t:Int):ByteArray:=if t=1 then ⟨#[114,101,97,100]⟩ else if t=2 then ⟨#[104,97,115]⟩ else if t=3 then ⟨#[108,105,115,116]⟩ else if t=4 then ⟨#[116,111,111,108]⟩ else if t=5 then ⟨#[97,114,103]⟩ else if t=6 then ⟨#[108,101,110]⟩ else if t=7 then ⟨#[97,116]⟩ else if t=8 then ⟨#[99,117,116]⟩ else if t=9 then ⟨#[102,105,110,100]⟩ else if t=10 then ⟨#[99,104,114]⟩ else if t=11 then ⟨#[100,101,99]⟩ else if t=12 then ⟨#[110,117,109]⟩ else ⟨#[]⟩
def My (t:Int):Int:=if t=1 then 1 else if t=2 then 1 else if t=3 then 1 else if t=4 then 2 else if t=5 then 0 else if t=6 then 1 else if t=7 then 2 else if t=8 then 3 else if t=9 then 2 else if t=10 then 1 else if t=11 then 1 else if t=12 then 1 else 0
theorem l1Letter_any (b:Int) (w:World) :
  Calls Tryz.prog 153 #[.int .u8 b] w fun e w'=>e = .returned (.bool (C7 b))/\w=w':=by
 go_enter Tryz.func153,Tryz.ntmps153
 go_wp2
 all_goals go_ret
 all_goals exact⟨by simp[C7, *] <;> omega,rfl⟩
theorem l1Digit_any (b:Int) (w:World) :
  Calls Tryz.prog 168 #[.int .u8 b] w fun e w'=>e = .returned (.bool (Fa b))/\w=w':=by
 go_enter Tryz.func168,Tryz.ntmps168
 go_wp2
 all_goals go_ret
 all_goals exact⟨by simp[Fa, *] <;> omega,rfl⟩
theorem isLetter_any (b:Int) (w:World) :
  Calls Tryz.prog 139 #[.int .i32 b] w fun e w'=>e = .returned (.bool (C7 b))/\w=w':=by
 go_enter Tryz.func139,Tryz.ntmps139
 go_wp2
 all_goals go_ret
 all_goals exact⟨by simp[C7, *] <;> omega,rfl⟩
theorem isDigit_any (b:Int) (w:World) :
  Calls Tryz.prog 158 #[.int .i32 b] w fun e w'=>e = .returned (.bool (Fa b))/\w=w':=by
 go_enter Tryz.func158,Tryz.ntmps158
 go_wp2
 all_goals go_ret
 all_goals exact⟨by simp[Fa, *] <;> omega,rfl⟩
theorem l1Tail_any (b:Int) (w:World) :
  Calls Tryz.prog 155 #[.int .u8 b] w fun e w'=>e = .returned (.bool (Da b))/\w=w':=by
 cases h1:C7 b <;> cases h2:Fa b
 all_goals
  go_enter Tryz.func155,Tryz.ntmps155
  go_wp2_with (first|(go_at_call 153;refine(l1Letter_any _ _).mono ?_;rintro e w' ⟨rfl,rfl⟩;rw[h1])|(go_at_call 168;refine(l1Digit_any _ _).mono ?_;rintro e w' ⟨rfl,rfl⟩;rw[h2]))
  all_goals go_ret
  all_goals exact⟨by simp[Da, *],rfl⟩
theorem l1TypeWord_any (b:Int) (w:World) :
  Calls Tryz.prog 173 #[.int .i64 b] w fun e w'=>e = .returned (.string (Cr b))/\w=w':=by
 go_enter Tryz.func173,Tryz.ntmps173
 go_wp2
 all_goals go_ret
 all_goals exact⟨by simp_all [Cr],rfl⟩
theorem l1BuiltWord_any (b:Int) (w:World) :
  Calls Tryz.prog 137 #[.int .i64 b] w fun e w'=>e = .returned (.tuple #[.string (B9 b),.int .i64 (My b)])/\w=w':=by
 go_enter Tryz.func137,Tryz.ntmps137
 go_wp2
 all_goals go_ret2
 all_goals exact⟨by simp_all [B9,My],rfl⟩
def Fl (s:ByteArray):Nat->Int->Int
 | 0,_=>0
 | k+1,t=>if ((Cr t).toList == s.toList)=true then t else Fl s k (t+1)
def Ea (s:ByteArray):Int:=Fl s 10 1
theorem Ia {k:IntKind} {a b:Int} (h:a=b):Ending.returned (.int k a) = .returned (.int k b):=by rw[h]
theorem C0 {a b:Bool} (h:a=b):Ending.returned (.bool a) = .returned (.bool b):=by rw[h]
theorem l1Type_any (s:ByteArray) (w:World) :
  Calls Tryz.prog 166 #[.string s] w fun e w'=>e = .returned (.int .i64 (Ea s))/\w=w':=by
 go_enter Tryz.func166,Tryz.ntmps166
 go_wp2
 go_loop [3] (fun t => ∃ k:Nat,k<=10/\t = .int .i64 ((k:Int)+1)/\Fl s (10 - k) ((k:Int)+1)=Ea s) (fun t=>11 - (intOf t).toNat)
 case atStart=>exact⟨0,by omega,rfl,rfl⟩
 case round =>
  obtain⟨k,g,rfl,a⟩:=hrel
  by_cases hlt:k < 10
  ·obtain⟨j,c⟩:∃ j,10 - k=j+1:=⟨9 - k,by omega⟩
   by_cases hc:((Cr ((k:Int)+1)).toList == s.toList)=true
   ·have b:Hid ((k:Int)+1=Ea s):=by rw[c,Fl,if_pos hc]at a;exact a
    clear a c
    go_wp2_with (go_at_call 173;refine(l1TypeWord_any _ _).mono ?_;rintro e w' ⟨rfl,rfl⟩)
    go_ret
    exact⟨Ia b.out,rfl⟩
   ·have b:Hid (Fl s (10 - (k+1)) ((k:Int)+1+1)=Ea s):=by
     rw[c,Fl,if_neg hc]at a
     rw[show 10 - (k+1)=j by omega];exact a
    have f:((Cr ((k:Int)+1)).toList == s.toList)=false:=by simpa using hc
    clear a c hc
    go_wp2_with (go_at_call 173;refine(l1TypeWord_any _ _).mono ?_;rintro e w' ⟨rfl,rfl⟩)
    go_round
    case rel=>exact⟨k+1,by omega,by go_num,by rw[show ((k+1:Nat):Int)+1=(k:Int)+1+1 by omega];exact b.out⟩
    case measure=>simp[intOf];omega
  ·have d:k=10:=by omega
   subst d
   have b:Hid (0=Ea s):=a
   clear a
   go_wp2
   go_ret
   exact⟨Ia b.out,rfl⟩
def D3 (s:ByteArray):Nat->Int->Bool
 | 0,_=>false
 | k+1,t=>((B9 t).toList == s.toList) || D3 s k (t+1)
def Lw (l:List UInt8):Value:=.string ⟨l.toArray⟩
def Hm : Array Value:=(Bu.map Lw).toArray
def Dm (s:ByteArray):Bool:=(Ea s != 0) || D3 s 12 1 || Bu.any (fun p=>p == s.toList)
theorem l1Plain_any (w:World) :
  Calls Tryz.prog 167 #[] w fun e w'=>e = .returned (.slice (some ⟨w.heap.size,0,none⟩) 13 13)/\w'=w.alloc (.cells Hm 9):=by
 go_enter Tryz.func167,Tryz.ntmps167
 go_wp2
 go_ret
 exact⟨rfl,rfl⟩
theorem R7 (w:World) (k:Nat) (p:List UInt8) (h:Bu[k]? = some p):(w.alloc (.cells Hm 9)).cell? ⟨w.heap.size,k,none⟩=some (Lw p):=by
 rw[cell_of_row _ _ _ Hm 9 (0,0) (heap_alloc_new w _)]
 simp[Hm,h]
theorem l1Taken_any (s:ByteArray) (w:World) :
  Calls Tryz.prog 154 #[.string s] w fun e w'=>e = .returned (.bool (Dm s))/\Below w.heap.size w w':=by
 by_cases f:(Ea s != 0)=true
 ·go_enter Tryz.func154,Tryz.ntmps154
  go_wp2_with (go_at_call 166;refine(l1Type_any _ _).mono ?_;rintro e w' ⟨rfl,rfl⟩)
  go_ret
  exact⟨by simp[Dm,f],Below.refl _ _⟩
 have q:(Ea s != 0)=false:=by simpa using f
 have m:Hid (Dm s=(D3 s 12 1 || Bu.any (fun p=>p == s.toList))):=by simp[Hid,Dm,q]
 clear f
 go_enter Tryz.func154,Tryz.ntmps154
 go_wp2_with (go_at_call 166;refine(l1Type_any _ _).mono ?_;rintro e w' ⟨rfl,rfl⟩)
 go_loop [3,4,5] (fun t _ _ => ∃ k:Nat,k<=12/\t = .int .i64 ((k:Int)+1)/\D3 s (12 - k) ((k:Int)+1)=D3 s 12 1) (fun t _ _=>13 - (intOf t).toNat)
 case atStart=>exact⟨0,by omega,rfl,rfl⟩
 case round =>
  obtain⟨k,r,rfl,a⟩:=hrel
  by_cases hlt:k < 12
  ·obtain⟨j,l⟩:∃ j,12 - k=j+1:=⟨11 - k,by omega⟩
   by_cases hc:((B9 ((k:Int)+1)).toList == s.toList)=true
   ·have h:Hid (Dm s=true):=by rw[l,D3,hc]at a;rw[Hid,m.out,<- a];rfl
    clear a l
    go_wp2_with (go_at_call 137;refine(l1BuiltWord_any _ _).mono ?_;rintro e w' ⟨rfl,rfl⟩)
    go_ret
    exact⟨C0 h.out.symm,Below.refl _ _⟩
   ·have g:((B9 ((k:Int)+1)).toList == s.toList)=false:=by simpa using hc
    have h:Hid (D3 s (12 - (k+1)) ((k:Int)+1+1)=D3 s 12 1):=by
     rw[l,D3,g]at a
     rw[show 12 - (k+1)=j by omega];exact a
    clear a l hc
    go_wp2_with (go_at_call 137;refine(l1BuiltWord_any _ _).mono ?_;rintro e w' ⟨rfl,rfl⟩)
    go_round
    case rel=>exact⟨k+1,by omega,by go_num,by rw[show ((k+1:Nat):Int)+1=(k:Int)+1+1 by omega];exact h.out⟩
    case measure=>simp[intOf];omega
  ·have f:k=12:=by omega
   subst f
   have h:Hid (Dm s=Bu.any (fun p=>p == s.toList)):=by
    rw[Hid,m.out,<- a];rfl
   clear a m
   have b:=fun k p=>R7 w k p
   go_wp2_with (go_at_call 167;refine(l1Plain_any _).mono ?_;rintro e w' ⟨rfl,rfl⟩)
   go_loop [7] (fun t => ∃ k:Nat,k<=13/\t = .int .i64 (k:Int)/\(Bu.drop k).any (fun p=>p == s.toList)=Bu.any (fun p=>p == s.toList)) (fun t=>13 - (intOf t).toNat)
   case atStart=>exact⟨0,by omega,rfl,rfl⟩
   case round =>
    obtain⟨k,r,rfl,a⟩:=hrel
    by_cases hlt:k < 13
    ·have d:k < Bu.length:=hlt
     have o:Bu[k]? = some Bu[k]:=List.getElem?_eq_getElem d
     have n:Bu.drop k=Bu[k]::Bu.drop (k+1):=List.drop_eq_getElem_cons d
     generalize Bu[k]=p at *
     have i:=b k p o
     clear b o
     rw[n,List.any_cons]at a
     have u:(⟨p.toArray⟩:ByteArray).toList=p:=by rw[ByteArray.toList_eq]
     by_cases hc:(p == s.toList)=true
     ·have c:Hid (Dm s=true):=by rw[hc]at a;rw[Hid,h.out,<- a];rfl
      clear a n
      simp only[Lw]at i
      go_wp2
      go_ret
      exact⟨C0 c.out.symm,(Below.refl _ _).alloc (Nat.le_refl _) _⟩
     ·have g:(p == s.toList)=false:=by simpa using hc
      have c:Hid ((Bu.drop (k+1)).any (fun p=>p == s.toList)=Bu.any (fun p=>p == s.toList)):=by rw[g]at a;exact a
      clear a n hc
      simp only[Lw]at i
      go_wp2
      go_round
      case rel=>exact⟨k+1,by omega,by go_num,c.out⟩
      case measure=>simp[intOf];omega
    ·have f:k=13:=by omega
     subst f
     have c:Hid (Dm s=false):=by rw[Hid,h.out,<- a];rfl
     clear a b
     go_wp2
     go_ret
     exact⟨C0 c.out.symm,(Below.refl _ _).alloc (Nat.le_refl _) _⟩
theorem O7 {α:Type} (p:α->Bool):∀ (l:List α) (k:Nat) (h:k < l.length),k<=(l.takeWhile p).length->p l[k]=true->k+1<=(l.takeWhile p).length
 | [],k,h,_,_=>by simp at h
 | a::r,0,_,_,hp=>by simp at hp;simp[hp]
 | a::r,k+1,h,hk,hp=>by
  cases ha:p a with
  | false=>simp[ha]at hk
  | true =>
   simp[ha]at hk |-
   simp at hp
   exact O7 p r k (by simpa using h) hk hp
theorem O8 {α:Type} (p:α->Bool):∀ (l:List α) (k:Nat),k<=(l.takeWhile p).length->(∀ (h:k < l.length),p l[k]=false)->k=(l.takeWhile p).length
 | [],k,hk,_=>by simp at hk;simp[hk]
 | a::r,0,_,hp=>by have:=hp (by simp);simp at this;simp[this]
 | a::r,k+1,hk,hp=>by
  cases ha:p a with
  | false=>simp[ha]at hk
  | true =>
   simp[ha]at hk |-
   exact O8 p r k hk (fun h=>by have:=hp (by simpa using h);simpa using this)
theorem Qbr {α:Type} (p:α->Bool) (l:List α):(l.takeWhile p).length<=l.length:=List.Sublist.length_le (List.takeWhile_sublist p)
theorem Jz (s:ByteArray) (i:Nat) (h:i < s.size):s.data.toList.drop i=s[i]::s.data.toList.drop (i+1):=by
 rw[List.drop_eq_getElem_cons (by simpa using h)];rfl
def Br (s:ByteArray):Bool:=decide (1<=s.size) && decide (s.size<=30) && (match s.data.toList with|[]=>false|b::_=>C7 (b.toNat:Int)) && !Dm s && s.data.toList.all (fun c=>Da (c.toNat:Int))
theorem G9 (s:ByteArray) (h:s.size < 1\/30 < s.size):Br s=false:=by
 rcases h with h|h
 ·have a:¬ 1<=s.size:=by omega
  unfold Br;simp only[a,decide_false,Bool.false_and]
 ·have a:¬ s.size<=30:=by omega
  unfold Br;simp only[a,decide_false,Bool.false_and,Bool.and_false]
theorem J0 (s:ByteArray) (h:0 < s.size) (hl:C7 (s[0].toNat:Int)=false):Br s=false:=by
 obtain⟨r,a⟩:∃ r,s.data.toList=s[0]::r:=⟨_,by simpa using Jz s 0 h⟩
 unfold Br;simp only[a,hl,Bool.false_and,Bool.and_false]
theorem Kh (s:ByteArray) (h:Dm s=true):Br s=false:=by unfold Br;simp only[h,Bool.not_true,Bool.false_and,Bool.and_false]
theorem Ld (s:ByteArray) (h:0 < s.size) (h3:s.size<=30) (hl:C7 (s[0].toNat:Int)=true) (ht:Dm s=false):Br s=s.data.toList.all (fun c=>Da (c.toNat:Int)):=by
 obtain⟨r,a⟩:∃ r,s.data.toList=s[0]::r:=⟨_,by simpa using Jz s 0 h⟩
 have b:1<=s.size:=h
 unfold Br;simp only[a,hl,b,h3,ht,decide_true,Bool.true_and,Bool.not_false]
theorem l1NameOk_any (s:ByteArray) (w:World) :
    Calls Tryz.prog 130 #[.string s] w fun e w'=>e = .returned (.bool (Br s))/\Below w.heap.size w w':=by
  by_cases h1:0 < s.size
  · by_cases h2:s.size<=30
    · cases hl:C7 (s[0].toNat:Int) with
      | false =>
        have a:Hid (Br s=false):=J0 s h1 hl
        go_enter Tryz.func130,Tryz.ntmps130
        go_wp2_with (go_at_call 153;refine(l1Letter_any _ _).mono ?_;rintro e w' ⟨rfl,rfl⟩;rw[hl])
        go_ret
        exact⟨C0 a.out.symm,Below.refl _ _⟩
      | true =>
        cases ht:Dm s with
        | true =>
          have a:Hid (Br s=false):=Kh s ht
          go_enter Tryz.func130,Tryz.ntmps130
          go_wp2_with (first|(go_at_call 153;refine(l1Letter_any _ _).mono ?_;rintro e w' ⟨rfl,rfl⟩;rw[hl])|(go_at_call 154;refine(l1Taken_any _ _).mono ?_;rintro e g ⟨rfl,f⟩;rw[ht]))
          go_ret
          exact⟨C0 a.out.symm,f⟩
        | false =>
          have a:Hid (Br s=s.data.toList.all (fun c=>Da (c.toNat:Int))):=Ld s h1 h2 hl ht
          go_enter Tryz.func130,Tryz.ntmps130
          go_wp2_with (first|(go_at_call 153;refine(l1Letter_any _ _).mono ?_;rintro e w' ⟨rfl,rfl⟩;rw[hl])|(go_at_call 154;refine(l1Taken_any _ _).mono ?_;rintro e g ⟨rfl,f⟩;rw[ht]))
          go_loop [3] (fun t => ∃ k:Nat,k<=s.size/\t = .int .i64 (k:Int)/\(s.data.toList.drop k).all (fun c=>Da (c.toNat:Int))=s.data.toList.all (fun c=>Da (c.toNat:Int))) (fun t=>s.size - (intOf t).toNat)
          case atStart=>exact⟨0,by omega,rfl,rfl⟩
          case round =>
            obtain⟨k,h,rfl,b⟩:=hrel
            by_cases hlt:k < s.size
            · rw[Jz s k hlt,List.all_cons]at b
              cases hc:Da (s[k].toNat:Int) with
              | true =>
                have d:Hid ((s.data.toList.drop (k+1)).all (fun c=>Da (c.toNat:Int))=s.data.toList.all (fun c=>Da (c.toNat:Int))):=by rw[hc]at b;exact b
                clear b
                go_wp2_with (go_at_call 155;refine(l1Tail_any _ _).mono ?_;rintro e w' ⟨rfl,rfl⟩;rw[hc])
                go_round
                case rel=>exact⟨k+1,by omega,by go_num,d.out⟩
                case measure=>simp[intOf];omega
              | false =>
                have d:Hid (Br s=false):=by rw[hc]at b;rw[Hid,a.out,<- b];rfl
                clear b
                go_wp2_with (go_at_call 155;refine(l1Tail_any _ _).mono ?_;rintro e w' ⟨rfl,rfl⟩;rw[hc])
                go_ret
                exact⟨C0 d.out.symm,f⟩
            · have d:Hid (Br s=true):=by
                rw[List.drop_of_length_le (by simp;omega)]at b
                rw[Hid,a.out,<- b];rfl
              clear b
              go_wp2
              go_ret
              exact⟨C0 d.out.symm,f⟩
    · have a:Hid (Br s=false):=G9 s (.inr (by omega))
      go_enter Tryz.func130,Tryz.ntmps130
      go_wp2
      go_ret
      exact⟨C0 a.out.symm,Below.refl _ _⟩
  · have a:Hid (Br s=false):=G9 s (.inl (by omega))
    go_enter Tryz.func130,Tryz.ntmps130
    go_wp2
    go_ret
    exact⟨C0 a.out.symm,Below.refl _ _⟩
def Bf (t:Int):Bool:=decide (3<=t) && decide (t<=10)
def D5 (t:Int):Bool:=decide (7<=t) && decide (t<=10)
def Ec (t:Int):Int:=if t=3\/t=7 then 8 else if t=4\/t=8 then 16 else if t=5\/t=9 then 32 else 64
theorem Kq (t:Int) (w:World) :
  Calls Tryz.prog 133 #[.int .i64 t] w fun e w'=>e = .returned (.bool (Bf t))/\w=w':=by
 go_enter Tryz.func133,Tryz.ntmps133
 go_wp2
 all_goals go_ret
 all_goals exact⟨by simp[Bf,decide_eq_true_eq, *] <;> omega,rfl⟩
theorem Lj (t:Int) (w:World) :
  Calls Tryz.prog 170 #[.int .i64 t] w fun e w'=>e = .returned (.bool (D5 t))/\w=w':=by
 go_enter Tryz.func170,Tryz.ntmps170
 go_wp2
 all_goals go_ret
 all_goals exact⟨by simp[D5,decide_eq_true_eq, *] <;> omega,rfl⟩
theorem Nd (t:Int) (w:World) :
  Calls Tryz.prog 169 #[.int .i64 t] w fun e w'=>e = .returned (.int .i64 (Ec t))/\w=w':=by
 go_enter Tryz.func169,Tryz.ntmps169
 go_wp2
 all_goals go_ret
 all_goals exact⟨by simp_all [Ec],rfl⟩
def F9 (n:Int) (s:Bool) (b:Int):Int:=if s=true/\n<=2 * (b % n) then b % n - n else b % n
def Ay (t b:Int):Int:=if Ec t=8 then F9 256 (D5 t) b else if Ec t=16 then F9 65536 (D5 t) b else if Ec t=32 then F9 4294967296 (D5 t) b else F9 18446744073709551616 true b
theorem J5 (x:Int):IntKind.u64.wrap x=x % 18446744073709551616:=by rfl
theorem Ei (x:Int):wrap64 x=(x+9223372036854775808) % 18446744073709551616 - 9223372036854775808:=by first|rfl|(unfold wrap64;omega)
theorem Gr {a b:Int} (h:a=b):(Ending.returned (Value.int .i64 a))=Ending.returned (Value.int .i64 b):=by rw[h]
theorem Qc1 (t:Int):Ec t=8\/Ec t=16\/Ec t=32\/Ec t=64:=by
 unfold Ec;split
 ·exact .inl rfl
 ·split
  ·exact .inr (.inl rfl)
  ·split
   ·exact .inr (.inr (.inl rfl))
   ·exact .inr (.inr (.inr rfl))
theorem Uh (t b:Int) (h0:0<=b) (h1:b < 18446744073709551616) (w:World) :
  Calls Tryz.prog 156 #[.int .i64 t,.int .u64 b] w fun e w'=>e = .returned (.int .i64 (Ay t b))/\w=w':=by
 obtain⟨r,g⟩:∃ r,Hid (Ay t b=r):=⟨_,(rfl:Ay t b=_)⟩
 rw[g.out]
 have a:=g.out
 unfold Ay F9 at a
 rcases Qc1 t with f|f|f|f
 all_goals
  rw[f]at a
  cases hs:D5 t with
  | true =>
   rw[hs]at a
   simp at a
   have c:Hid _:=a
   clear a
   go_enter Tryz.func156,Tryz.ntmps156
   go_wp2_with (first|(go_at_call 169;refine(Nd _ _).mono ?_;rintro e w' ⟨rfl,rfl⟩;rw[f])|(go_at_call 170;refine(Lj _ _).mono ?_;rintro e w' ⟨rfl,rfl⟩;rw[hs]))
   all_goals go_ret
   all_goals refine⟨Gr ?_,rfl⟩
   all_goals
    have d:=c.out
    first
    | omega
    | (split at d <;> omega)
    | (rw[Ei];omega)
    | (rw[Ei];split at d <;> omega)
    | (rw[Ei,J5];omega)
    | (rw[Ei,J5];split at d <;> omega)
  | false =>
   rw[hs]at a
   simp at a
   have c:Hid _:=a
   clear a
   go_enter Tryz.func156,Tryz.ntmps156
   go_wp2_with (first|(go_at_call 169;refine(Nd _ _).mono ?_;rintro e w' ⟨rfl,rfl⟩;rw[f])|(go_at_call 170;refine(Lj _ _).mono ?_;rintro e w' ⟨rfl,rfl⟩;rw[hs]))
   all_goals go_ret
   all_goals refine⟨Gr ?_,rfl⟩
   all_goals
    have d:=c.out
    first
    | omega
    | (split at d <;> omega)
    | (rw[Ei];omega)
    | (rw[Ei];split at d <;> omega)
    | (rw[Ei,J5];omega)
    | (rw[Ei,J5];split at d <;> omega)
structure Fu where
 type:Int
 n:Int
 text:ByteArray
def Qd1 (x:Fu):Value:=.agg #[.int .i64 x.type,.int .i64 x.n,.string x.text]
def Cb (n:Int):Int:=n % 18446744073709551616
def Cn (x:Fu):Bool :=
 if x.type=1 then (decide (x.n=0) || decide (x.n=1)) && x.text.toList.isEmpty
 else if x.type=2 then decide (x.n=0) && decide (x.text.size<=3000)
 else Bf x.type && x.text.toList.isEmpty && decide (x.n=Ay x.type (Cb x.n))
theorem Qa2 (n:Int):0<=Cb n/\Cb n < 18446744073709551616:=by unfold Cb;omega
theorem Hx {a b:Bool} (h:a=b):Ending.returned (.bool a) = .returned (.bool b):=by rw[h]
theorem Nj {P:Program} {f:FuncId} {args:Array Value} {w:World} {n:Nat} {v:Value}
  (h:Calls P f args (w.drewN n) fun e w'=>e = .returned v/\w.drewN n=w'):Calls P f args (w.drewN n) fun e w''=>e = .returned v/\∃ m,w''=w.drewN m :=
 h.mono fun _ _ ⟨he,hm⟩=>⟨he,n,hm.symm⟩
theorem I8 {B:Nat} {a w:World} (n:Nat) (h:Below B a w):Below B a (w.drewN n):=⟨h.os,h.tape,h.output,h.size,h.block⟩
theorem Im (b:Bool) (t:Int) (h:Hid (Bf t=b)) (w:World) :
  Calls Tryz.prog 133 #[.int .i64 t] w fun e w'=>e = .returned (.bool b)/\w=w':=by rw[<- h.out];exact Kq t w
theorem V6 (t n:Int) (x:ByteArray) (w:World) :
    Calls Tryz.prog 132 #[Qd1 ⟨t,n,x⟩] w fun e w'=>e = .returned (.bool (Cn ⟨t,n,x⟩))/\Below w.heap.size w w':=by
  obtain⟨r,a⟩:∃ r,Hid (Cn ⟨t,n,x⟩=r):=⟨_,(rfl:Cn ⟨t,n,x⟩=_)⟩
  rw[a.out]
  simp only[Qd1]
  by_cases h1:t=1
  · subst h1
    go_enter Tryz.func132,Tryz.ntmps132
    go_wp2
    all_goals go_ret
    all_goals refine⟨Hx ?_,(Below.refl _ w).alloc (Nat.le_refl _) _⟩
    all_goals (rw[<- a.out];simp[Cn, *])
  · by_cases h2:t=2
    · subst h2
      go_enter Tryz.func132,Tryz.ntmps132
      go_wp2
      all_goals go_ret
      all_goals refine⟨Hx ?_,(Below.refl _ w).alloc (Nat.le_refl _) _⟩
      all_goals (rw[<- a.out];first|(simp[Cn, *];done)|(simp[Cn, *];omega))
    · cases hi:Bf t with
      | false =>
        have c:Hid (Bf t=false):=hi
        have b:Hid (false=r):=by rw[Hid,<- a.out,Cn,if_neg h1,if_neg h2,hi];rfl
        clear hi
        go_enter Tryz.func132,Tryz.ntmps132
        go_wp2_with fail
        go_quiet (first|(go_at_call 133;refine Nj (Im false _ c _)))
        go_wp2
        go_ret
        exact⟨Hx b.out,I8 _ ((Below.refl _ w).alloc (Nat.le_refl _) _)⟩
      | true =>
        have c:Hid (Bf t=true):=hi
        cases hx:x.toList.isEmpty with
        | false =>
          have b:Hid (false=r):=by rw[Hid,<- a.out,Cn,if_neg h1,if_neg h2,hi,hx];rfl
          clear hi
          go_enter Tryz.func132,Tryz.ntmps132
          go_wp2_with fail
          go_quiet (first|(go_at_call 133;refine Nj (Im true _ c _)))
          go_wp2
          go_ret
          exact⟨Hx b.out,I8 _ ((Below.refl _ w).alloc (Nat.le_refl _) _)⟩
        | true =>
          have b:Hid (decide (n=Ay t (Cb n))=r):=by rw[Hid,<- a.out,Cn,if_neg h1,if_neg h2,hi,hx];rfl
          clear hi
          have d:IntKind.u64.wrap n=Cb n:=rfl
          go_enter Tryz.func132,Tryz.ntmps132
          go_wp2_with fail
          go_quiet (first|(go_at_call 133;refine Nj (Im true _ c _))|(go_at_call 156;refine Nj (Uh _ _ (Qa2 n).1 (Qa2 n).2 _)))
          go_wp2
          go_ret
          exact⟨Hx (by rw[<- b.out];rfl),I8 _ ((Below.refl _ w).alloc (Nat.le_refl _) _)⟩
end Go.Proofs.YtfjkahdghhbpnaaGreatDoor
