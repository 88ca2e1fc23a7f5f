/- The law CrtRationalMatchesReference holds: for every input the call returns true and each argument reads afterwards as before. Conditions: the package variables of the library that the row lists are as the program's text lays them. -/
import Derived.Test.YtclmenpclkmfeaaDoorVRowCRM
import Derived.Test.YtclmenpclkmfeaaDoorVCrtSan
namespace Go.Proofs.YtclmenpclkmfeaaDoor
theorem cRM_holds : Rows.CrtRationalMatchesReferenceCardSaid := cRM_card sanc_any
end Go.Proofs.YtclmenpclkmfeaaDoor
