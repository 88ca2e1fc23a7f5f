/- The law IntegerText holds: for every input the call returns true and each argument reads afterwards as before. Conditions: the package variables of the library that the row lists are as the program's text lays them. -/
import Derived.Test.YtnlmdjbakcjhbaaDoorVRowText
import Derived.Test.YtnlmdjbakcjhbaaDoorVSan
namespace Go.Proofs.YtnlmdjbakcjhbaaDoor
theorem text_holds : Rows.IntegerTextCardSaid := text_card sanity_any
end Go.Proofs.YtnlmdjbakcjhbaaDoor
