import Derived.Test.YtkijfehdgiiejaaDoorValC
namespace Go.Proofs.YtkijfehdgiiejaaDoor
open Go.RowKit

def Val.sz (x : ByteArray) (l : Int) : Int := if l - (x.size : Int) < 0 then -1 else l - (x.size : Int)
end Go.Proofs.YtkijfehdgiiejaaDoor
