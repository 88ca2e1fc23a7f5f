/- The law CrtRejects holds: for every input the call returns true and each argument reads afterwards as before. Conditions: the package variables of the library that the row lists are as the program's text lays them. -/
import Derived.Test.YtclmenpclkmfeaaDoorVRowCRej
import Derived.Test.YtclmenpclkmfeaaDoorVCrtSan
namespace Go.Proofs.YtclmenpclkmfeaaDoor
theorem cRej_holds : Rows.CrtRejectsCardSaid := cRej_card sanc_any
end Go.Proofs.YtclmenpclkmfeaaDoor
