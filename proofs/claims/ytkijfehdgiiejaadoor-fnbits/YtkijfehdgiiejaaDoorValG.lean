import Derived.Test.YtkijfehdgiiejaaDoorValF
import Derived.Test.YtkijfehdgiiejaaDoorValD
namespace Go.Proofs.YtkijfehdgiiejaaDoor
open Go.RowKit

end Go.Proofs.YtkijfehdgiiejaaDoor
