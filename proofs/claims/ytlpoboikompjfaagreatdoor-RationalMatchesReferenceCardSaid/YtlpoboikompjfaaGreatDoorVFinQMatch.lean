/- The law RationalMatchesReference holds: for every input the call returns true and each argument reads afterwards as before. Conditions: the package variables of the library that the row lists are as the program's text lays them. -/
import Derived.Test.YtlpoboikompjfaaGreatDoorVRowQMatch
import Derived.Test.YtlpoboikompjfaaGreatDoorVG28RatT
namespace Go.Proofs.YtlpoboikompjfaaGreatDoor
theorem qMatch_holds : Rows.RationalMatchesReferenceCardSaid := qMatch_card sanq_any
end Go.Proofs.YtlpoboikompjfaaGreatDoor
