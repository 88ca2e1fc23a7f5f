/- The law IntegerRoots holds: for every input the call returns true and each argument reads afterwards as before. Conditions: the package variables of the library that the row lists are as the program's text lays them. -/
import Derived.Test.YtdknibhaacbkpaaDoorVRowRoot
import Derived.Test.YtdknibhaacbkpaaDoorVSan
namespace Go.Proofs.YtdknibhaacbkpaaDoor
theorem root_holds : Rows.IntegerRootsCardSaid := root_card sanity_any
end Go.Proofs.YtdknibhaacbkpaaDoor
