import Derived.Test.YtibaebmbpfeodaaDoorValC
namespace Go.Proofs.YtibaebmbpfeodaaDoor
open Go.RowKit

def Val.sz (x : ByteArray) (l : Int) : Int := if l - (x.size : Int) < 0 then -1 else l - (x.size : Int)
end Go.Proofs.YtibaebmbpfeodaaDoor
