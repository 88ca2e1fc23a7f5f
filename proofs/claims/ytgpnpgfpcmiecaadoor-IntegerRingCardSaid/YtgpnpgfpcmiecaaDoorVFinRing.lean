/- The law IntegerRing holds: for every input the call returns true and each argument reads afterwards as before. Conditions: the package variables of the library that the row lists are as the program's text lays them. -/
import Derived.Test.YtgpnpgfpcmiecaaDoorVRowRing
import Derived.Test.YtgpnpgfpcmiecaaDoorVSan
namespace Go.Proofs.YtgpnpgfpcmiecaaDoor
theorem ring_holds : Rows.IntegerRingCardSaid := ring_card sanity_any
end Go.Proofs.YtgpnpgfpcmiecaaDoor
