import Derived.Test.YtkijfehdgiiejaaDoorRows
import Derived.WalkKit
import Derived.WalkSpells
import Derived.WalkLawsBesides
namespace Go.Proofs.YtkijfehdgiiejaaDoor
open Go.RowKit

def Mill.letter (b : Int) : Bool := decide (97 ≤ b) && decide (b ≤ 122)
def Mill.digit (b : Int) : Bool := decide (48 ≤ b) && decide (b ≤ 57)
def Mill.tail (b : Int) : Bool := Mill.letter b || Mill.digit b || (b == 95)
def Mill.bare (b : Int) : Bool := decide (32 ≤ b) && decide (b ≤ 126) && b != 34 && b != 92
def Mill.hex (b : Int) : Int := if 48 ≤ b ∧ b ≤ 57 then b - 48 else if 97 ≤ b ∧ b ≤ 102 then b - 97 + 10 else -1
def Mill.typeWords : List (List UInt8) := [[98, 111, 111, 108], [116, 101, 120, 116], [117, 56], [117, 49, 54], [117, 51, 50], [117, 54, 52], [105, 56], [105, 49, 54], [105, 51, 50], [105, 54, 52]]
def Mill.builtWords : List (List UInt8) := [[114, 101, 97, 100], [104, 97, 115], [108, 105, 115, 116], [116, 111, 111, 108], [97, 114, 103], [108, 101, 110], [97, 116], [99, 117, 116], [102, 105, 110, 100], [99, 104, 114], [100, 101, 99], [110, 117, 109]]
def Mill.plainWords : List (List UInt8) := [[102, 110], [108, 101, 116], [105, 102], [101, 108, 115, 101], [119, 104, 105, 108, 101], [98, 114, 101, 97, 107], [99, 111, 110, 116, 105, 110, 117, 101], [114, 101, 116, 117, 114, 110], [102, 97, 105, 108], [119, 114, 105, 116, 101], [115, 97, 121], [116, 114, 117, 101], [102, 97, 108, 115, 101]]
def Mill.marks : List (List UInt8) := [[45, 62], [61, 61], [33, 61], [60, 61], [62, 61], [60, 60], [62, 62], [38, 38], [124, 124], [40], [41], [123], [125], [44], [59], [61], [60], [62], [43], [45], [42], [47], [37], [38], [124], [94], [33], [126]]
def Mill.typeWord (t : Int) : ByteArray := if t = 1 then ⟨#[98, 111, 111, 108]⟩ else if t = 2 then ⟨#[116, 101, 120, 116]⟩ else if t = 3 then ⟨#[117, 56]⟩ else if t = 4 then ⟨#[117, 49, 54]⟩ else if t = 5 then ⟨#[117, 51, 50]⟩ else if t = 6 then ⟨#[117, 54, 52]⟩ else if t = 7 then ⟨#[105, 56]⟩ else if t = 8 then ⟨#[105, 49, 54]⟩ else if t = 9 then ⟨#[105, 51, 50]⟩ else if t = 10 then ⟨#[105, 54, 52]⟩ else ⟨#[]⟩
def Mill.builtWord (t : Int) : ByteArray := if t = 1 then ⟨#[114, 101, 97, 100]⟩ else if t = 2 then ⟨#[104, 97, 115]⟩ else if t = 3 then ⟨#[108, 105, 115, 116]⟩ else if t = 4 then ⟨#[116, 111, 111, 108]⟩ else if t = 5 then ⟨#[97, 114, 103]⟩ else if t = 6 then ⟨#[108, 101, 110]⟩ else if t = 7 then ⟨#[97, 116]⟩ else if t = 8 then ⟨#[99, 117, 116]⟩ else if t = 9 then ⟨#[102, 105, 110, 100]⟩ else if t = 10 then ⟨#[99, 104, 114]⟩ else if t = 11 then ⟨#[100, 101, 99]⟩ else if t = 12 then ⟨#[110, 117, 109]⟩ else ⟨#[]⟩
def Mill.builtKids (t : Int) : Int := if t = 1 then 1 else if t = 2 then 1 else if t = 3 then 1 else if t = 4 then 2 else if t = 5 then 0 else if t = 6 then 1 else if t = 7 then 2 else if t = 8 then 3 else if t = 9 then 2 else if t = 10 then 1 else if t = 11 then 1 else if t = 12 then 1 else 0


set_option maxHeartbeats 400000 in
theorem l1Integer_any (b : Int) (w : World) :
    Calls Tryd.prog 11 #[.int .i64 b] w fun e w' => e = .returned (.bool (decide (3 ≤ b) && decide (b ≤ 10))) ∧ w = w' := by
  go_enter Tryd.func11, Tryd.ntmps11
  go_wp2
  all_goals go_ret
  all_goals exact ⟨by simp [decide_eq_true_eq, *] <;> omega, rfl⟩

set_option maxHeartbeats 400000 in
theorem l1Signed_any (b : Int) (w : World) :
    Calls Tryd.prog 21 #[.int .i64 b] w fun e w' => e = .returned (.bool (decide (7 ≤ b) && decide (b ≤ 10))) ∧ w = w' := by
  go_enter Tryd.func21, Tryd.ntmps21
  go_wp2
  all_goals go_ret
  all_goals exact ⟨by simp [decide_eq_true_eq, *] <;> omega, rfl⟩

end Go.Proofs.YtkijfehdgiiejaaDoor
