/- The law IntegerPowers holds: for every input the call returns true and each argument reads afterwards as before. Conditions: the package variables of the library that the row lists are as the program's text lays them. -/
import Derived.Test.YtdknibhaacbkpaaDoorVRowPow
import Derived.Test.YtdknibhaacbkpaaDoorVSan
namespace Go.Proofs.YtdknibhaacbkpaaDoor
theorem pow_holds : Rows.IntegerPowersCardSaid := pow_card sanity_any
end Go.Proofs.YtdknibhaacbkpaaDoor
