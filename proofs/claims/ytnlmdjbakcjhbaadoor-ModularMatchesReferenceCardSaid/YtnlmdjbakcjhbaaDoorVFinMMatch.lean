/- The law ModularMatchesReference holds: for every input the call returns true and each argument reads afterwards as before. Conditions: the package variables of the library that the row lists are as the program's text lays them. -/
import Derived.Test.YtnlmdjbakcjhbaaDoorVRowMMatch
import Derived.Test.YtnlmdjbakcjhbaaDoorVSanM
namespace Go.Proofs.YtnlmdjbakcjhbaaDoor
theorem mMatch_holds : Rows.ModularMatchesReferenceCardSaid := mMatch_card sanm_any
end Go.Proofs.YtnlmdjbakcjhbaaDoor
