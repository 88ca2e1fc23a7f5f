/- The law CrtOrders holds: for every input the call returns true and each argument reads afterwards as before. Conditions: the package variables of the library that the row lists are as the program's text lays them. -/
import Derived.Test.YtclmenpclkmfeaaDoorVRowCOrd
import Derived.Test.YtclmenpclkmfeaaDoorVCrtSan
namespace Go.Proofs.YtclmenpclkmfeaaDoor
theorem cOrd_holds : Rows.CrtOrdersCardSaid := cOrd_card sanc_any
end Go.Proofs.YtclmenpclkmfeaaDoor
