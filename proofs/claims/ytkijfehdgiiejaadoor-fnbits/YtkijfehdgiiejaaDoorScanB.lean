import Derived.Test.YtkijfehdgiiejaaDoorScanA
namespace Go.Proofs.YtkijfehdgiiejaaDoor
open Go.RowKit

def Mill.typeFrom (s : ByteArray) : Nat → Int → Int
  | 0, _ => 0
  | k + 1, t => if ((Mill.typeWord t).toList == s.toList) = true then t else Mill.typeFrom s k (t + 1)
def Mill.typeOf (s : ByteArray) : Int := Mill.typeFrom s 10 1

theorem Mill.ret_int {k : IntKind} {a b : Int} (h : a = b) : Ending.returned (.int k a) = .returned (.int k b) := by rw [h]
theorem Mill.ret_bool {a b : Bool} (h : a = b) : Ending.returned (.bool a) = .returned (.bool b) := by rw [h]

def Mill.builtIn (s : ByteArray) : Nat → Int → Bool
  | 0, _ => false
  | k + 1, t => ((Mill.builtWord t).toList == s.toList) || Mill.builtIn s k (t + 1)
def Mill.strOf (l : List UInt8) : Value := .string ⟨l.toArray⟩
def Mill.plainCells : Array Value := (Mill.plainWords.map Mill.strOf).toArray
def Mill.taken (s : ByteArray) : Bool := (Mill.typeOf s != 0) || Mill.builtIn s 12 1 || Mill.plainWords.any (fun p => p == s.toList)

end Go.Proofs.YtkijfehdgiiejaaDoor
