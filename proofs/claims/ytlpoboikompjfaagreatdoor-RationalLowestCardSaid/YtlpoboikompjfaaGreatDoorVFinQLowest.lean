/- The law RationalLowest holds: for every input the call returns true and each argument reads afterwards as before. Conditions: the package variables of the library that the row lists are as the program's text lays them. -/
import Derived.Test.YtlpoboikompjfaaGreatDoorVRowQLowest
import Derived.Test.YtlpoboikompjfaaGreatDoorVG28RatT
namespace Go.Proofs.YtlpoboikompjfaaGreatDoor
theorem qLowest_holds : Rows.RationalLowestCardSaid := qLowest_card sanq_any
end Go.Proofs.YtlpoboikompjfaaGreatDoor
