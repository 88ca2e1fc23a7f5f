/- The law IntegerExt holds: for every input the call returns true and each argument reads afterwards as before. Conditions: the package variables of the library that the row lists are as the program's text lays them. -/
import Derived.Test.YtnlmdjbakcjhbaaDoorVRowExt
import Derived.Test.YtnlmdjbakcjhbaaDoorVSan
namespace Go.Proofs.YtnlmdjbakcjhbaaDoor
theorem ext_holds : Rows.IntegerExtCardSaid := ext_card sanity_any
end Go.Proofs.YtnlmdjbakcjhbaaDoor
