/- Words for the rows: the settled world with its two tables laid; arguments that are integers in two parts. -/
import Derived.Test.YtclmenpclkmfeaaDoorCards
import Derived.Test.YtclmenpclkmfeaaDoorTie
import Derived.WalkKit
import Derived.ProofKit
import Derived.OpenShut
import Derived.Deep.DeepHandedRow
import Derived.Lib.LaidTab
import Derived.Lib.SmallJoins
import Derived.Carry
import Derived.Test.YtclmenpclkmfeaaDoorVG0Words
namespace Go.Proofs.YtclmenpclkmfeaaDoor
open Go.ChangeShapes Go.WideShapes Go.ChangeAt Go.RowKit
theorem ownK : ownKnob Tryd.prog.godebug = none := by kernel_rfl
theorem laidOut : laidOutB Tryd.prog = true := by kernel_rfl
theorem cellsU32 : Tryd.prog.cellsOf 69 = 1 := by kernel_rfl
def layRow (cs : Array Value) : Obj → Obj
  | .cells _ t frozen => .cells cs t frozen
  | o => o
/-- The limbs of an argument's slice. -/
theorem lim_of {w : World} {a : Addr} {len cap : Nat} {zs : List Int} (hl : len ≤ cap) (hm : cap ≤ maxLen) (hz : zs.length = cap)
    (hcell : ∀ i, i < zs.length → w.cell? (a.add i) = some (.int .u32 (zs.getD i 0))) (hw : ∀ n ∈ zs, (Lit.int .u32 n).wf = true) :
    ∃ xs, Lim w w.heap.size (some a) len cap xs := by
  refine ⟨(zs.take len).map Int.toNat, ⟨hl, by unfold maxLen at hm; omega⟩, by simp; omega, ?_, ?_⟩
  · intro x hx
    obtain ⟨z, hz', rfl⟩ := List.mem_map.1 hx
    have := bounds_u32 (hw z (List.mem_of_mem_take hz'))
    omega
  · intro h0
    refine ⟨a, rfl, ?_, fun k hk => ?_⟩
    · have h := hcell 0 (by omega)
      have h2 := block_lt_of_cell h
      rwa [block_add] at h2
    · rw [hcell k (by omega)]
      have hb := bounds_u32 (hw (zs.getD k 0) (by rw [List.getD_eq_getElem?_getD, List.getElem?_eq_getElem (by omega)]; exact List.getElem_mem _))
      congr 2
      rw [List.getD_eq_getElem?_getD (l := (zs.take len).map Int.toNat), List.getElem?_map, List.getElem?_take, if_pos hk]
      rw [List.getD_eq_getElem?_getD, List.getElem?_eq_getElem (by omega)] at hb ⊢
      simp only [Option.map_some, Option.getD_some] at hb ⊢
      omega
end Go.Proofs.YtclmenpclkmfeaaDoor
