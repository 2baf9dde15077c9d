import Derived.Test.YtbkhedpabfanoaaGreatDoorRows
import Derived.WalkKit
import Derived.WalkSpells
import Derived.WalkLawsBesides
import Derived.Lib.UnsafeStr
import Derived.Laws.IdiomStrings
import Derived.Laws.BytesArg
import Derived.Deep.RegionLaw
import Derived.Deep.QuietTactic
import Derived.BigQuiet
namespace Go.Proofs.YtbkhedpabfanoaaGreatDoor
open Go.RowKit

def Mill.letter (b:Int):Bool:=decide (97≤b) && decide (b≤122)
def Mill.digit (b:Int):Bool:=decide (48≤b) && decide (b≤57)
def Mill.tail (b:Int):Bool:=Mill.letter b || Mill.digit b || (b == 95)
def Mill.typeWords : List (List UInt8):=[[98,111,111,108],[116,101,120,116],[117,56],[117,49,54],[117,51,50],[117,54,52],[105,56],[105,49,54],[105,51,50],[105,54,52]]
def Mill.builtWords : List (List UInt8):=[[114,101,97,100],[104,97,115],[108,105,115,116],[116,111,111,108],[97,114,103],[108,101,110],[97,116],[99,117,116],[102,105,110,100],[99,104,114],[100,101,99],[110,117,109]]
def Mill.plainWords : List (List UInt8):=[[102,110],[108,101,116],[105,102],[101,108,115,101],[119,104,105,108,101],[98,114,101,97,107],[99,111,110,116,105,110,117,101],[114,101,116,117,114,110],[102,97,105,108],[119,114,105,116,101],[115,97,121],[116,114,117,101],[102,97,108,115,101]]
def Mill.typeWord (t:Int):ByteArray:=if t=1 then ⟨#[98,111,111,108]⟩ else if t=2 then ⟨#[116,101,120,116]⟩ else if t=3 then ⟨#[117,56]⟩ else if t=4 then ⟨#[117,49,54]⟩ else if t=5 then ⟨#[117,51,50]⟩ else if t=6 then ⟨#[117,54,52]⟩ else if t=7 then ⟨#[105,56]⟩ else if t=8 then ⟨#[105,49,54]⟩ else if t=9 then ⟨#[105,51,50]⟩ else if t=10 then ⟨#[105,54,52]⟩ else ⟨#[]⟩
def Mill.builtWord (t:Int):ByteArray:=if t=1 then ⟨#[114,101,97,100]⟩ else if t=2 then ⟨#[104,97,115]⟩ else if t=3 then ⟨#[108,105,115,116]⟩ else if t=4 then ⟨#[116,111,111,108]⟩ else if t=5 then ⟨#[97,114,103]⟩ else if t=6 then ⟨#[108,101,110]⟩ else if t=7 then ⟨#[97,116]⟩ else if t=8 then ⟨#[99,117,116]⟩ else if t=9 then ⟨#[102,105,110,100]⟩ else if t=10 then ⟨#[99,104,114]⟩ else if t=11 then ⟨#[100,101,99]⟩ else if t=12 then ⟨#[110,117,109]⟩ else ⟨#[]⟩
def Mill.builtKids (t:Int):Int:=if t=1 then 1 else if t=2 then 1 else if t=3 then 1 else if t=4 then 2 else if t=5 then 0 else if t=6 then 1 else if t=7 then 2 else if t=8 then 3 else if t=9 then 2 else if t=10 then 1 else if t=11 then 1 else if t=12 then 1 else 0


set_option maxHeartbeats 400000 in
theorem l1Letter_any (b:Int) (w:World) :
    Calls Tryz.prog 94 #[.int .u8 b] w fun e w'=>e = .returned (.bool (Mill.letter b))∧w=w':=by
  go_enter Tryz.func94,Tryz.ntmps94
  go_wp2
  all_goals go_ret
  all_goals exact ⟨by simp [Mill.letter, *] <;> omega,rfl⟩

set_option maxHeartbeats 400000 in
theorem l1Digit_any (b:Int) (w:World) :
    Calls Tryz.prog 116 #[.int .u8 b] w fun e w'=>e = .returned (.bool (Mill.digit b))∧w=w':=by
  go_enter Tryz.func116,Tryz.ntmps116
  go_wp2
  all_goals go_ret
  all_goals exact ⟨by simp [Mill.digit, *] <;> omega,rfl⟩

set_option maxHeartbeats 400000 in
theorem isLetter_any (b:Int) (w:World) :
    Calls Tryz.prog 99 #[.int .i32 b] w fun e w'=>e = .returned (.bool (Mill.letter b))∧w=w':=by
  go_enter Tryz.func99,Tryz.ntmps99
  go_wp2
  all_goals go_ret
  all_goals exact ⟨by simp [Mill.letter, *] <;> omega,rfl⟩

set_option maxHeartbeats 400000 in
theorem isDigit_any (b:Int) (w:World) :
    Calls Tryz.prog 119 #[.int .i32 b] w fun e w'=>e = .returned (.bool (Mill.digit b))∧w=w':=by
  go_enter Tryz.func119,Tryz.ntmps119
  go_wp2
  all_goals go_ret
  all_goals exact ⟨by simp [Mill.digit, *] <;> omega,rfl⟩

set_option maxHeartbeats 400000 in
theorem l1Tail_any (b:Int) (w:World) :
    Calls Tryz.prog 96 #[.int .u8 b] w fun e w'=>e = .returned (.bool (Mill.tail b))∧w=w':=by
  cases h1:Mill.letter b <;> cases h2:Mill.digit b
  all_goals
    go_enter Tryz.func96,Tryz.ntmps96
    go_wp2_with (first | (go_at_call 94;refine (l1Letter_any _ _).mono ?_;rintro e w' ⟨rfl,rfl⟩;rw [h1]) | (go_at_call 116;refine (l1Digit_any _ _).mono ?_;rintro e w' ⟨rfl,rfl⟩;rw [h2]))
    all_goals go_ret
    all_goals exact ⟨by simp [Mill.tail, *],rfl⟩

set_option maxHeartbeats 400000 in
theorem l1TypeWord_any (b:Int) (w:World) :
    Calls Tryz.prog 127 #[.int .i64 b] w fun e w'=>e = .returned (.string (Mill.typeWord b))∧w=w':=by
  go_enter Tryz.func127,Tryz.ntmps127
  go_wp2
  all_goals go_ret
  all_goals exact ⟨by simp_all [Mill.typeWord],rfl⟩

set_option maxHeartbeats 400000 in
theorem l1BuiltWord_any (b:Int) (w:World) :
    Calls Tryz.prog 81 #[.int .i64 b] w fun e w'=>e = .returned (.tuple #[.string (Mill.builtWord b),.int .i64 (Mill.builtKids b)])∧w=w':=by
  go_enter Tryz.func81,Tryz.ntmps81
  go_wp2
  all_goals go_ret2
  all_goals exact ⟨by simp_all [Mill.builtWord,Mill.builtKids],rfl⟩

end Go.Proofs.YtbkhedpabfanoaaGreatDoor
namespace Go.Proofs.YtbkhedpabfanoaaGreatDoor
open Go.RowKit

def Mill.typeFrom (s:ByteArray):Nat→Int→Int
  | 0,_=>0
  | k+1,t=>if ((Mill.typeWord t).toList == s.toList)=true then t else Mill.typeFrom s k (t+1)
def Mill.typeOf (s:ByteArray):Int:=Mill.typeFrom s 10 1

theorem Mill.ret_int {k:IntKind} {a b:Int} (h:a=b):Ending.returned (.int k a) = .returned (.int k b):=by rw [h]
theorem Mill.ret_bool {a b:Bool} (h:a=b):Ending.returned (.bool a) = .returned (.bool b):=by rw [h]

set_option maxHeartbeats 400000 in
theorem l1Type_any (s:ByteArray) (w:World) :
    Calls Tryz.prog 114 #[.string s] w fun e w'=>e = .returned (.int .i64 (Mill.typeOf s))∧w=w':=by
  go_enter Tryz.func114,Tryz.ntmps114
  go_wp2
  go_loop [3] (fun t => ∃ k:Nat,k≤10∧t = .int .i64 ((k:Int)+1)∧Mill.typeFrom s (10 - k) ((k:Int)+1)=Mill.typeOf s) (fun t=>11 - (intOf t).toNat)
  case atStart=>exact ⟨0,by omega,rfl,rfl⟩
  case round =>
    obtain ⟨k,hk,rfl,hf⟩:=hrel
    by_cases hlt:k < 10
    · obtain ⟨j,hj⟩:∃ j,10 - k=j+1:=⟨9 - k,by omega⟩
      by_cases hc:((Mill.typeWord ((k:Int)+1)).toList == s.toList)=true
      · have HF:Hid ((k:Int)+1=Mill.typeOf s):=by rw [hj,Mill.typeFrom,if_pos hc] at hf;exact hf
        clear hf hj
        go_wp2_with (go_at_call 127;refine (l1TypeWord_any _ _).mono ?_;rintro e w' ⟨rfl,rfl⟩)
        go_ret
        exact ⟨Mill.ret_int HF.out,rfl⟩
      · have HF:Hid (Mill.typeFrom s (10 - (k+1)) ((k:Int)+1+1)=Mill.typeOf s):=by
          rw [hj,Mill.typeFrom,if_neg hc] at hf
          rw [show 10 - (k+1)=j by omega];exact hf
        have hc':((Mill.typeWord ((k:Int)+1)).toList == s.toList)=false:=by simpa using hc
        clear hf hj hc
        go_wp2_with (go_at_call 127;refine (l1TypeWord_any _ _).mono ?_;rintro e w' ⟨rfl,rfl⟩)
        go_round
        case rel=>exact ⟨k+1,by omega,by go_num,by rw [show ((k+1:Nat):Int)+1=(k:Int)+1+1 by omega];exact HF.out⟩
        case measure=>simp [intOf];omega
    · have h0:k=10:=by omega
      subst h0
      have HF:Hid (0=Mill.typeOf s):=hf
      clear hf
      go_wp2
      go_ret
      exact ⟨Mill.ret_int HF.out,rfl⟩
def Mill.builtIn (s:ByteArray):Nat→Int→Bool
  | 0,_=>false
  | k+1,t=>((Mill.builtWord t).toList == s.toList) || Mill.builtIn s k (t+1)
def Mill.strOf (l:List UInt8):Value:=.string ⟨l.toArray⟩
def Mill.plainCells : Array Value:=(Mill.plainWords.map Mill.strOf).toArray
def Mill.taken (s:ByteArray):Bool:=(Mill.typeOf s != 0) || Mill.builtIn s 12 1 || Mill.plainWords.any (fun p=>p == s.toList)

set_option maxHeartbeats 400000 in
theorem l1Plain_any (w:World) :
    Calls Tryz.prog 115 #[] w fun e w'=>e = .returned (.slice (some ⟨w.heap.size,0,none⟩) 13 13)∧w'=w.alloc (.cells Mill.plainCells 9):=by
  go_enter Tryz.func115,Tryz.ntmps115
  go_wp2
  go_ret
  exact ⟨rfl,rfl⟩

end Go.Proofs.YtbkhedpabfanoaaGreatDoor
namespace Go.Proofs.YtbkhedpabfanoaaGreatDoor
open Go.RowKit

theorem Mill.plain_cell (w:World) (k:Nat) (p:List UInt8) (h:Mill.plainWords[k]? = some p):(w.alloc (.cells Mill.plainCells 9)).cell? ⟨w.heap.size,k,none⟩=some (Mill.strOf p):=by
  rw [cell_of_row _ _ _ Mill.plainCells 9 (0,0) (heap_alloc_new w _)]
  simp [Mill.plainCells,h]

set_option maxHeartbeats 1000000 in
theorem l1Taken_any (s:ByteArray) (w:World) :
    Calls Tryz.prog 95 #[.string s] w fun e w'=>e = .returned (.bool (Mill.taken s))∧Below w.heap.size w w':=by
  by_cases h0:(Mill.typeOf s != 0)=true
  · go_enter Tryz.func95,Tryz.ntmps95
    go_wp2_with (go_at_call 114;refine (l1Type_any _ _).mono ?_;rintro e w' ⟨rfl,rfl⟩)
    go_ret
    exact ⟨by simp [Mill.taken,h0],Below.refl _ _⟩
  have h1:(Mill.typeOf s != 0)=false:=by simpa using h0
  have HT:Hid (Mill.taken s=(Mill.builtIn s 12 1 || Mill.plainWords.any (fun p=>p == s.toList))):=by simp [Hid,Mill.taken,h1]
  clear h0
  go_enter Tryz.func95,Tryz.ntmps95
  go_wp2_with (go_at_call 114;refine (l1Type_any _ _).mono ?_;rintro e w' ⟨rfl,rfl⟩)
  go_loop [3,4,5] (fun t _ _ => ∃ k:Nat,k≤12∧t = .int .i64 ((k:Int)+1)∧Mill.builtIn s (12 - k) ((k:Int)+1)=Mill.builtIn s 12 1) (fun t _ _=>13 - (intOf t).toNat)
  case atStart=>exact ⟨0,by omega,rfl,rfl⟩
  case round =>
    obtain ⟨k,hk,rfl,hf⟩:=hrel
    by_cases hlt:k < 12
    · obtain ⟨j,hj⟩:∃ j,12 - k=j+1:=⟨11 - k,by omega⟩
      by_cases hc:((Mill.builtWord ((k:Int)+1)).toList == s.toList)=true
      · have HF:Hid (Mill.taken s=true):=by rw [hj,Mill.builtIn,hc] at hf;rw [Hid,HT.out,← hf];rfl
        clear hf hj
        go_wp2_with (go_at_call 81;refine (l1BuiltWord_any _ _).mono ?_;rintro e w' ⟨rfl,rfl⟩)
        go_ret
        exact ⟨Mill.ret_bool HF.out.symm,Below.refl _ _⟩
      · have hc':((Mill.builtWord ((k:Int)+1)).toList == s.toList)=false:=by simpa using hc
        have HF:Hid (Mill.builtIn s (12 - (k+1)) ((k:Int)+1+1)=Mill.builtIn s 12 1):=by
          rw [hj,Mill.builtIn,hc'] at hf
          rw [show 12 - (k+1)=j by omega];exact hf
        clear hf hj hc
        go_wp2_with (go_at_call 81;refine (l1BuiltWord_any _ _).mono ?_;rintro e w' ⟨rfl,rfl⟩)
        go_round
        case rel=>exact ⟨k+1,by omega,by go_num,by rw [show ((k+1:Nat):Int)+1=(k:Int)+1+1 by omega];exact HF.out⟩
        case measure=>simp [intOf];omega
    · have h0:k=12:=by omega
      subst h0
      have HF:Hid (Mill.taken s=Mill.plainWords.any (fun p=>p == s.toList)):=by
        rw [Hid,HT.out,← hf];rfl
      clear hf HT
      have hcell:=fun k p=>Mill.plain_cell w k p
      go_wp2_with (go_at_call 115;refine (l1Plain_any _).mono ?_;rintro e w' ⟨rfl,rfl⟩)
      go_loop [7] (fun t => ∃ k:Nat,k≤13∧t = .int .i64 (k:Int)∧(Mill.plainWords.drop k).any (fun p=>p == s.toList)=Mill.plainWords.any (fun p=>p == s.toList)) (fun t=>13 - (intOf t).toNat)
      case atStart=>exact ⟨0,by omega,rfl,rfl⟩
      case round =>
        obtain ⟨k,hk,rfl,hf⟩:=hrel
        by_cases hlt:k < 13
        · have hlt2:k < Mill.plainWords.length:=hlt
          have hp:Mill.plainWords[k]? = some Mill.plainWords[k]:=List.getElem?_eq_getElem hlt2
          have hd:Mill.plainWords.drop k=Mill.plainWords[k]::Mill.plainWords.drop (k+1):=List.drop_eq_getElem_cons hlt2
          generalize Mill.plainWords[k]=p at *
          have hcl:=hcell k p hp
          clear hcell hp
          rw [hd,List.any_cons] at hf
          have hsl:(⟨p.toArray⟩:ByteArray).toList=p:=by rw [ByteArray.toList_eq]
          by_cases hc:(p == s.toList)=true
          · have HF2:Hid (Mill.taken s=true):=by rw [hc] at hf;rw [Hid,HF.out,← hf];rfl
            clear hf hd
            simp only [Mill.strOf] at hcl
            go_wp2
            go_ret
            exact ⟨Mill.ret_bool HF2.out.symm,(Below.refl _ _).alloc (Nat.le_refl _) _⟩
          · have hc':(p == s.toList)=false:=by simpa using hc
            have HF2:Hid ((Mill.plainWords.drop (k+1)).any (fun p=>p == s.toList)=Mill.plainWords.any (fun p=>p == s.toList)):=by rw [hc'] at hf;exact hf
            clear hf hd hc
            simp only [Mill.strOf] at hcl
            go_wp2
            go_round
            case rel=>exact ⟨k+1,by omega,by go_num,HF2.out⟩
            case measure=>simp [intOf];omega
        · have h0:k=13:=by omega
          subst h0
          have HF2:Hid (Mill.taken s=false):=by rw [Hid,HF.out,← hf];rfl
          clear hf hcell
          go_wp2
          go_ret
          exact ⟨Mill.ret_bool HF2.out.symm,(Below.refl _ _).alloc (Nat.le_refl _) _⟩

end Go.Proofs.YtbkhedpabfanoaaGreatDoor
namespace Go.Proofs.YtbkhedpabfanoaaGreatDoor
open Go.RowKit

theorem Mill.tw_step {α:Type} (p:α→Bool):∀ (l:List α) (k:Nat) (h:k < l.length),k≤(l.takeWhile p).length→p l[k]=true→k+1≤(l.takeWhile p).length
  | [],k,h,_,_=>by simp at h
  | a::r,0,_,_,hp=>by simp at hp;simp [hp]
  | a::r,k+1,h,hk,hp=>by
    cases ha:p a with
    | false=>simp [ha] at hk
    | true =>
      simp [ha] at hk ⊢
      simp at hp
      exact Mill.tw_step p r k (by simpa using h) hk hp
theorem Mill.tw_stop {α:Type} (p:α→Bool):∀ (l:List α) (k:Nat),k≤(l.takeWhile p).length→(∀ (h:k < l.length),p l[k]=false)→k=(l.takeWhile p).length
  | [],k,hk,_=>by simp at hk;simp [hk]
  | a::r,0,_,hp=>by have:=hp (by simp);simp at this;simp [this]
  | a::r,k+1,hk,hp=>by
    cases ha:p a with
    | false=>simp [ha] at hk
    | true =>
      simp [ha] at hk ⊢
      exact Mill.tw_stop p r k hk (fun h=>by have:=hp (by simpa using h);simpa using this)
theorem Mill.tw_le {α:Type} (p:α→Bool) (l:List α):(l.takeWhile p).length≤l.length:=List.Sublist.length_le (List.takeWhile_sublist p)

end Go.Proofs.YtbkhedpabfanoaaGreatDoor
namespace Go.Proofs.YtbkhedpabfanoaaGreatDoor
open Go.RowKit

end Go.Proofs.YtbkhedpabfanoaaGreatDoor
namespace Go.Proofs.YtbkhedpabfanoaaGreatDoor
open Go.RowKit

theorem Mill.conv_own {P:Program} {w:World} {src dst e:TypeId} (hs:P.underlying src=some (.slice e)) (he:P.underlying e=some (.int .u8)) (hd:P.underlying dst=some .string) {B:Nat} {v:Value} {acc:List UInt8}
    (h:w.ownsRow B e 1 v acc.length (Lib.byteCells acc)):(convert src dst v).run P w = .ok (.string ⟨acc.toArray⟩) w:=by
  have hcells:=fun g=>h.cells (g:=g)
  obtain ⟨h1,h2⟩:=h
  rcases h2 with ⟨rfl,h0⟩ | ⟨g,cap,cur,rfl,hg,hh,hn,hcap,hsz,htake⟩
  · have:acc=[]:=List.eq_nil_of_length_eq_zero h0
    subst this
    exact run_convert_bytes_nil (P:=P) (w:=w) src e hs he 0 0 dst hd
  · refine run_convert_bytes_back w src dst e ⟨g,0,none⟩ cap acc hs he hd ?_
    intro j hj
    exact hcells g rfl j _ (by simp [Lib.byteCells,hj])

theorem Mill.drop_cons (s:ByteArray) (i:Nat) (h:i < s.size):s.data.toList.drop i=s[i]::s.data.toList.drop (i+1):=by
  rw [List.drop_eq_getElem_cons (by simpa using h)];rfl
theorem Tryz.infoByte : (Tryz.prog.info? 5).map (fun i=>(i.zero,i.size,i.bytes))=some (some (.int .u8 0),1,1):=by kernel_rfl

end Go.Proofs.YtbkhedpabfanoaaGreatDoor
namespace Go.Proofs.YtbkhedpabfanoaaGreatDoor
open Go.RowKit

def Mill.nameOk (s:ByteArray):Bool:=decide (1≤s.size) && decide (s.size≤30) && (match s.data.toList with | []=>false | b::_=>Mill.letter (b.toNat:Int)) && !Mill.taken s && s.data.toList.all (fun c=>Mill.tail (c.toNat:Int))

theorem Mill.nameOk_size (s:ByteArray) (h:s.size < 1∨30 < s.size):Mill.nameOk s=false:=by
  rcases h with h | h
  · have h':¬ 1≤s.size:=by omega
    unfold Mill.nameOk;simp only [h',decide_false,Bool.false_and]
  · have h':¬ s.size≤30:=by omega
    unfold Mill.nameOk;simp only [h',decide_false,Bool.false_and,Bool.and_false]
theorem Mill.nameOk_letter (s:ByteArray) (h:0 < s.size) (hl:Mill.letter (s[0].toNat:Int)=false):Mill.nameOk s=false:=by
  obtain ⟨r,this⟩:∃ r,s.data.toList=s[0]::r:=⟨_,by simpa using Mill.drop_cons s 0 h⟩
  unfold Mill.nameOk;simp only [this,hl,Bool.false_and,Bool.and_false]
theorem Mill.nameOk_taken (s:ByteArray) (h:Mill.taken s=true):Mill.nameOk s=false:=by unfold Mill.nameOk;simp only [h,Bool.not_true,Bool.false_and,Bool.and_false]
theorem Mill.nameOk_rest (s:ByteArray) (h:0 < s.size) (h3:s.size≤30) (hl:Mill.letter (s[0].toNat:Int)=true) (ht:Mill.taken s=false):Mill.nameOk s=s.data.toList.all (fun c=>Mill.tail (c.toNat:Int)):=by
  obtain ⟨r,this⟩:∃ r,s.data.toList=s[0]::r:=⟨_,by simpa using Mill.drop_cons s 0 h⟩
  have h1:1≤s.size:=h
  unfold Mill.nameOk;simp only [this,hl,h1,h3,ht,decide_true,Bool.true_and,Bool.not_false]

set_option maxHeartbeats 1000000 in
theorem l1NameOk_any (s:ByteArray) (w:World) :
    Calls Tryz.prog 75 #[.string s] w fun e w'=>e = .returned (.bool (Mill.nameOk s))∧Below w.heap.size w w':=by
  by_cases h1:0 < s.size
  · by_cases h2:s.size≤30
    · cases hl:Mill.letter (s[0].toNat:Int) with
      | false =>
        have HV:Hid (Mill.nameOk s=false):=Mill.nameOk_letter s h1 hl
        go_enter Tryz.func75,Tryz.ntmps75
        go_wp2_with (go_at_call 94;refine (l1Letter_any _ _).mono ?_;rintro e w' ⟨rfl,rfl⟩;rw [hl])
        go_ret
        exact ⟨Mill.ret_bool HV.out.symm,Below.refl _ _⟩
      | true =>
        cases ht:Mill.taken s with
        | true =>
          have HV:Hid (Mill.nameOk s=false):=Mill.nameOk_taken s ht
          go_enter Tryz.func75,Tryz.ntmps75
          go_wp2_with (first | (go_at_call 94;refine (l1Letter_any _ _).mono ?_;rintro e w' ⟨rfl,rfl⟩;rw [hl]) | (go_at_call 95;refine (l1Taken_any _ _).mono ?_;rintro e w1 ⟨rfl,hb⟩;rw [ht]))
          go_ret
          exact ⟨Mill.ret_bool HV.out.symm,hb⟩
        | false =>
          have HV:Hid (Mill.nameOk s=s.data.toList.all (fun c=>Mill.tail (c.toNat:Int))):=Mill.nameOk_rest s h1 h2 hl ht
          go_enter Tryz.func75,Tryz.ntmps75
          go_wp2_with (first | (go_at_call 94;refine (l1Letter_any _ _).mono ?_;rintro e w' ⟨rfl,rfl⟩;rw [hl]) | (go_at_call 95;refine (l1Taken_any _ _).mono ?_;rintro e w1 ⟨rfl,hb⟩;rw [ht]))
          go_loop [3] (fun t => ∃ k:Nat,k≤s.size∧t = .int .i64 (k:Int)∧(s.data.toList.drop k).all (fun c=>Mill.tail (c.toNat:Int))=s.data.toList.all (fun c=>Mill.tail (c.toNat:Int))) (fun t=>s.size - (intOf t).toNat)
          case atStart=>exact ⟨0,by omega,rfl,rfl⟩
          case round =>
            obtain ⟨k,hk,rfl,hf⟩:=hrel
            by_cases hlt:k < s.size
            · rw [Mill.drop_cons s k hlt,List.all_cons] at hf
              cases hc:Mill.tail (s[k].toNat:Int) with
              | true =>
                have HF:Hid ((s.data.toList.drop (k+1)).all (fun c=>Mill.tail (c.toNat:Int))=s.data.toList.all (fun c=>Mill.tail (c.toNat:Int))):=by rw [hc] at hf;exact hf
                clear hf
                go_wp2_with (go_at_call 96;refine (l1Tail_any _ _).mono ?_;rintro e w' ⟨rfl,rfl⟩;rw [hc])
                go_round
                case rel=>exact ⟨k+1,by omega,by go_num,HF.out⟩
                case measure=>simp [intOf];omega
              | false =>
                have HF:Hid (Mill.nameOk s=false):=by rw [hc] at hf;rw [Hid,HV.out,← hf];rfl
                clear hf
                go_wp2_with (go_at_call 96;refine (l1Tail_any _ _).mono ?_;rintro e w' ⟨rfl,rfl⟩;rw [hc])
                go_ret
                exact ⟨Mill.ret_bool HF.out.symm,hb⟩
            · have HF:Hid (Mill.nameOk s=true):=by
                rw [List.drop_of_length_le (by simp;omega)] at hf
                rw [Hid,HV.out,← hf];rfl
              clear hf
              go_wp2
              go_ret
              exact ⟨Mill.ret_bool HF.out.symm,hb⟩
    · have HV:Hid (Mill.nameOk s=false):=Mill.nameOk_size s (.inr (by omega))
      go_enter Tryz.func75,Tryz.ntmps75
      go_wp2
      go_ret
      exact ⟨Mill.ret_bool HV.out.symm,Below.refl _ _⟩
  · have HV:Hid (Mill.nameOk s=false):=Mill.nameOk_size s (.inl (by omega))
    go_enter Tryz.func75,Tryz.ntmps75
    go_wp2
    go_ret
    exact ⟨Mill.ret_bool HV.out.symm,Below.refl _ _⟩

end Go.Proofs.YtbkhedpabfanoaaGreatDoor
namespace Go.Proofs.YtbkhedpabfanoaaGreatDoor
open Go.RowKit

def Val.isInt (t:Int):Bool:=decide (3≤t) && decide (t≤10)
def Val.signed (t:Int):Bool:=decide (7≤t) && decide (t≤10)
def Val.bits (t:Int):Int:=if t=3∨t=7 then 8 else if t=4∨t=8 then 16 else if t=5∨t=9 then 32 else 64

set_option maxHeartbeats 400000 in
theorem Val.l1Integer_any (t:Int) (w:World) :
    Calls Tryz.prog 77 #[.int .i64 t] w fun e w'=>e = .returned (.bool (Val.isInt t))∧w=w':=by
  go_enter Tryz.func77,Tryz.ntmps77
  go_wp2
  all_goals go_ret
  all_goals exact ⟨by simp [Val.isInt,decide_eq_true_eq, *] <;> omega,rfl⟩
set_option maxHeartbeats 400000 in
theorem Val.l1Signed_any (t:Int) (w:World) :
    Calls Tryz.prog 118 #[.int .i64 t] w fun e w'=>e = .returned (.bool (Val.signed t))∧w=w':=by
  go_enter Tryz.func118,Tryz.ntmps118
  go_wp2
  all_goals go_ret
  all_goals exact ⟨by simp [Val.signed,decide_eq_true_eq, *] <;> omega,rfl⟩
set_option maxHeartbeats 400000 in
theorem Val.l1Bits_any (t:Int) (w:World) :
    Calls Tryz.prog 117 #[.int .i64 t] w fun e w'=>e = .returned (.int .i64 (Val.bits t))∧w=w':=by
  go_enter Tryz.func117,Tryz.ntmps117
  go_wp2
  all_goals go_ret
  all_goals exact ⟨by simp_all [Val.bits],rfl⟩
def Val.fold (n:Int) (s:Bool) (b:Int):Int:=if s=true∧n≤2 * (b % n) then b % n - n else b % n
def Val.into (t b:Int):Int:=if Val.bits t=8 then Val.fold 256 (Val.signed t) b else if Val.bits t=16 then Val.fold 65536 (Val.signed t) b else if Val.bits t=32 then Val.fold 4294967296 (Val.signed t) b else Val.fold 18446744073709551616 true b

theorem Val.wrap_u (x:Int):IntKind.u64.wrap x=x % 18446744073709551616:=by rfl
theorem Val.wrap_i (x:Int):wrap64 x=(x+9223372036854775808) % 18446744073709551616 - 9223372036854775808:=by first | rfl | (unfold wrap64;omega)
theorem Val.ret_i {a b:Int} (h:a=b):(Ending.returned (Value.int .i64 a))=Ending.returned (Value.int .i64 b):=by rw [h]

theorem Val.bits4 (t:Int):Val.bits t=8∨Val.bits t=16∨Val.bits t=32∨Val.bits t=64:=by
  unfold Val.bits;split
  · exact .inl rfl
  · split
    · exact .inr (.inl rfl)
    · split
      · exact .inr (.inr (.inl rfl))
      · exact .inr (.inr (.inr rfl))
set_option maxRecDepth 100000 in
set_option maxHeartbeats 1000000 in
theorem Val.l4Into_any (t b:Int) (h0:0≤b) (h1:b < 18446744073709551616) (w:World) :
    Calls Tryz.prog 97 #[.int .i64 t,.int .u64 b] w fun e w'=>e = .returned (.int .i64 (Val.into t b))∧w=w':=by
  obtain ⟨r,HR⟩:∃ r,Hid (Val.into t b=r):=⟨_,(rfl:Val.into t b=_)⟩
  rw [HR.out]
  have HR2:=HR.out
  unfold Val.into Val.fold at HR2
  rcases Val.bits4 t with hb | hb | hb | hb
  all_goals
    rw [hb] at HR2
    cases hs:Val.signed t with
    | true =>
      rw [hs] at HR2
      simp at HR2
      have HR3:Hid _:=HR2
      clear HR2
      go_enter Tryz.func97,Tryz.ntmps97
      go_wp2_with (first | (go_at_call 117;refine (Val.l1Bits_any _ _).mono ?_;rintro e w' ⟨rfl,rfl⟩;rw [hb]) | (go_at_call 118;refine (Val.l1Signed_any _ _).mono ?_;rintro e w' ⟨rfl,rfl⟩;rw [hs]))
      all_goals go_ret
      all_goals refine ⟨Val.ret_i ?_,rfl⟩
      all_goals
        have h5:=HR3.out
        first
        | omega
        | (split at h5 <;> omega)
        | (rw [Val.wrap_i];omega)
        | (rw [Val.wrap_i];split at h5 <;> omega)
        | (rw [Val.wrap_i,Val.wrap_u];omega)
        | (rw [Val.wrap_i,Val.wrap_u];split at h5 <;> omega)
    | false =>
      rw [hs] at HR2
      simp at HR2
      have HR3:Hid _:=HR2
      clear HR2
      go_enter Tryz.func97,Tryz.ntmps97
      go_wp2_with (first | (go_at_call 117;refine (Val.l1Bits_any _ _).mono ?_;rintro e w' ⟨rfl,rfl⟩;rw [hb]) | (go_at_call 118;refine (Val.l1Signed_any _ _).mono ?_;rintro e w' ⟨rfl,rfl⟩;rw [hs]))
      all_goals go_ret
      all_goals refine ⟨Val.ret_i ?_,rfl⟩
      all_goals
        have h5:=HR3.out
        first
        | omega
        | (split at h5 <;> omega)
        | (rw [Val.wrap_i];omega)
        | (rw [Val.wrap_i];split at h5 <;> omega)
        | (rw [Val.wrap_i,Val.wrap_u];omega)
        | (rw [Val.wrap_i,Val.wrap_u];split at h5 <;> omega)
end Go.Proofs.YtbkhedpabfanoaaGreatDoor
namespace Go.Proofs.YtbkhedpabfanoaaGreatDoor
open Go.RowKit

structure Val.V where
  type:Int
  n:Int
  text:ByteArray
def Val.v (x:Val.V):Value:=.agg #[.int .i64 x.type,.int .i64 x.n,.string x.text]
def Val.u (n:Int):Int:=n % 18446744073709551616
def Val.valid (x:Val.V):Bool :=
  if x.type=1 then (decide (x.n=0) || decide (x.n=1)) && x.text.toList.isEmpty
  else if x.type=2 then decide (x.n=0) && decide (x.text.size≤3000)
  else Val.isInt x.type && x.text.toList.isEmpty && decide (x.n=Val.into x.type (Val.u x.n))
theorem Val.u_bd (n:Int):0≤Val.u n∧Val.u n < 18446744073709551616:=by unfold Val.u;omega

theorem Val.ret_b {a b:Bool} (h:a=b):Ending.returned (.bool a) = .returned (.bool b):=by rw [h]
theorem Val.quiet {P:Program} {f:FuncId} {args:Array Value} {w:World} {n:Nat} {v:Value}
    (h:Calls P f args (w.drewN n) fun e w'=>e = .returned v∧w.drewN n=w'):Calls P f args (w.drewN n) fun e w''=>e = .returned v∧∃ m,w''=w.drewN m :=
  h.mono fun _ _ ⟨he,hm⟩=>⟨he,n,hm.symm⟩
theorem Val.below_drewN {B:Nat} {a w:World} (n:Nat) (h:Below B a w):Below B a (w.drewN n):=⟨h.os,h.tape,h.output,h.size,h.block⟩
theorem Val.l1Integer_is (b:Bool) (t:Int) (h:Hid (Val.isInt t=b)) (w:World) :
    Calls Tryz.prog 77 #[.int .i64 t] w fun e w'=>e = .returned (.bool b)∧w=w':=by rw [← h.out];exact Val.l1Integer_any t w
set_option maxRecDepth 100000 in
set_option maxHeartbeats 1000000 in
theorem Val.valid_any (t n:Int) (x:ByteArray) (w:World) :
    Calls Tryz.prog 76 #[Val.v ⟨t,n,x⟩] w fun e w'=>e = .returned (.bool (Val.valid ⟨t,n,x⟩))∧Below w.heap.size w w':=by
  obtain ⟨r,HR⟩:∃ r,Hid (Val.valid ⟨t,n,x⟩=r):=⟨_,(rfl:Val.valid ⟨t,n,x⟩=_)⟩
  rw [HR.out]
  simp only [Val.v]
  by_cases h1:t=1
  · subst h1
    go_enter Tryz.func76,Tryz.ntmps76
    go_wp2
    all_goals go_ret
    all_goals refine ⟨Val.ret_b ?_,(Below.refl _ w).alloc (Nat.le_refl _) _⟩
    all_goals (rw [← HR.out];simp [Val.valid, *])
  · by_cases h2:t=2
    · subst h2
      go_enter Tryz.func76,Tryz.ntmps76
      go_wp2
      all_goals go_ret
      all_goals refine ⟨Val.ret_b ?_,(Below.refl _ w).alloc (Nat.le_refl _) _⟩
      all_goals (rw [← HR.out];first | (simp [Val.valid, *];done) | (simp [Val.valid, *];omega))
    · cases hi:Val.isInt t with
      | false =>
        have HI:Hid (Val.isInt t=false):=hi
        have HF:Hid (false=r):=by rw [Hid,← HR.out,Val.valid,if_neg h1,if_neg h2,hi];rfl
        clear hi
        go_enter Tryz.func76,Tryz.ntmps76
        go_wp2_with fail
        go_quiet (first | (go_at_call 77;refine Val.quiet (Val.l1Integer_is false _ HI _)))
        go_wp2
        go_ret
        exact ⟨Val.ret_b HF.out,Val.below_drewN _ ((Below.refl _ w).alloc (Nat.le_refl _) _)⟩
      | true =>
        have HI:Hid (Val.isInt t=true):=hi
        cases hx:x.toList.isEmpty with
        | false =>
          have HF:Hid (false=r):=by rw [Hid,← HR.out,Val.valid,if_neg h1,if_neg h2,hi,hx];rfl
          clear hi
          go_enter Tryz.func76,Tryz.ntmps76
          go_wp2_with fail
          go_quiet (first | (go_at_call 77;refine Val.quiet (Val.l1Integer_is true _ HI _)))
          go_wp2
          go_ret
          exact ⟨Val.ret_b HF.out,Val.below_drewN _ ((Below.refl _ w).alloc (Nat.le_refl _) _)⟩
        | true =>
          have HF:Hid (decide (n=Val.into t (Val.u n))=r):=by rw [Hid,← HR.out,Val.valid,if_neg h1,if_neg h2,hi,hx];rfl
          clear hi
          have hu:IntKind.u64.wrap n=Val.u n:=rfl
          go_enter Tryz.func76,Tryz.ntmps76
          go_wp2_with fail
          go_quiet (first | (go_at_call 77;refine Val.quiet (Val.l1Integer_is true _ HI _)) | (go_at_call 97;refine Val.quiet (Val.l4Into_any _ _ (Val.u_bd n).1 (Val.u_bd n).2 _)))
          go_wp2
          go_ret
          exact ⟨Val.ret_b (by rw [← HF.out];rfl),Val.below_drewN _ ((Below.refl _ w).alloc (Nat.le_refl _) _)⟩
end Go.Proofs.YtbkhedpabfanoaaGreatDoor
