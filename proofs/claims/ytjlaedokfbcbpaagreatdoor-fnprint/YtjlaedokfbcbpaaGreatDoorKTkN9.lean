import Derived.Test.YtjlaedokfbcbpaaGreatDoorKTkN7
set_option maxRecDepth 100000
set_option maxHeartbeats 8000000
namespace Go.Proofs.YtjlaedokfbcbpaaGreatDoor
open Go.RowKit Proofs.Tryz
theorem Tk.spoil_9 : Tk.Case 9:=by
 intro R P r s O g c l k p w w4 K b hP Z I d;intros;exact DdTkN8x10
end Go.Proofs.YtjlaedokfbcbpaaGreatDoor
