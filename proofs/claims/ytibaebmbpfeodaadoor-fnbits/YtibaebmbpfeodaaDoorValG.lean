import Derived.Test.YtibaebmbpfeodaaDoorValF
import Derived.Test.YtibaebmbpfeodaaDoorValD
namespace Go.Proofs.YtibaebmbpfeodaaDoor
open Go.RowKit

end Go.Proofs.YtibaebmbpfeodaaDoor
