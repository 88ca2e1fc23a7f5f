/- The law ModularField holds: for every input the call returns true and each argument reads afterwards as before. Conditions: the package variables of the library that the row lists are as the program's text lays them. -/
import Derived.Test.YtnlmdjbakcjhbaaDoorVRowMField
import Derived.Test.YtnlmdjbakcjhbaaDoorVSanM
namespace Go.Proofs.YtnlmdjbakcjhbaaDoor
theorem mField_holds : Rows.ModularFieldCardSaid := mField_card sanm_any
end Go.Proofs.YtnlmdjbakcjhbaaDoor
