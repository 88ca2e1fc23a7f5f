/- The law ModularReduces holds: for every input the call returns true and each argument reads afterwards as before. Conditions: the package variables of the library that the row lists are as the program's text lays them. -/
import Derived.Test.YtnlmdjbakcjhbaaDoorVRowMRed
import Derived.Test.YtnlmdjbakcjhbaaDoorVSanM
namespace Go.Proofs.YtnlmdjbakcjhbaaDoor
theorem mRed_holds : Rows.ModularReducesCardSaid := mRed_card sanm_any
end Go.Proofs.YtnlmdjbakcjhbaaDoor
