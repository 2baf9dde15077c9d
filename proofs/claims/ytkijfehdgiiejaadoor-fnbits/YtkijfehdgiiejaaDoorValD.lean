import Derived.Test.YtkijfehdgiiejaaDoorValC
namespace Go.Proofs.YtkijfehdgiiejaaDoor
open Go.RowKit

def Val.convert (x : Val.V) (to : Int) : Val.V × ByteArray := if Val.valid x = true ∧ Val.isInt x.type = true ∧ Val.isInt to = true then (Val.num to x.n, ⟨#[]⟩) else (Val.zero, Val.typeW)

end Go.Proofs.YtkijfehdgiiejaaDoor
