/- Words for the rows of layer 3: the settled world with the two tables of layer 3 laid; arrays of words. -/
import Derived.Test.YtclmenpclkmfeaaDoorVRowKit
import Derived.WideKeyArr2
import Derived.LaidSub
import Derived.Test.YtclmenpclkmfeaaDoorVG15DivModW
namespace Go.Proofs.YtclmenpclkmfeaaDoor
open Go.ChangeShapes Go.WideShapes Go.ChangeAt Go.RowKit
/-- A world for the witness: the settled one, the two tables holding what their initialisers lay. -/
noncomputable def laidWorldM (os : Os) : World :=
  { World.holding Tryd.prog os ⟨#[], #[], []⟩ with heap := ((World.holding Tryd.prog os ⟨#[], #[], []⟩).heap.modify 1 (layRow #[.int .u8 0, .int .u8 1, .int .u8 56, .int .u8 2, .int .u8 57, .int .u8 49, .int .u8 28, .int .u8 3, .int .u8 61, .int .u8 58, .int .u8 42, .int .u8 50, .int .u8 38, .int .u8 29, .int .u8 17, .int .u8 4, .int .u8 62, .int .u8 47, .int .u8 59, .int .u8 36, .int .u8 45, .int .u8 43, .int .u8 51, .int .u8 22, .int .u8 53, .int .u8 39, .int .u8 33, .int .u8 30, .int .u8 24, .int .u8 18, .int .u8 12, .int .u8 5, .int .u8 63, .int .u8 55, .int .u8 48, .int .u8 27, .int .u8 60, .int .u8 41, .int .u8 37, .int .u8 16, .int .u8 46, .int .u8 35, .int .u8 44, .int .u8 21, .int .u8 52, .int .u8 32, .int .u8 23, .int .u8 11, .int .u8 54, .int .u8 26, .int .u8 40, .int .u8 15, .int .u8 34, .int .u8 20, .int .u8 31, .int .u8 10, .int .u8 25, .int .u8 14, .int .u8 19, .int .u8 9, .int .u8 13, .int .u8 8, .int .u8 7, .int .u8 6])).modify 0 (layRow #[.int .u64 2, .int .u64 3, .int .u64 5, .int .u64 7]) }
theorem open_u8 {k : Int} (hk : (Lit.int .u8 k).wf = true) : ∃ n : Nat, k = (n : Int) ∧ n < 256 := by
  have := bounds_u8 hk
  exact ⟨k.toNat, by omega, by omega⟩
theorem tabU8 (zs : List Nat) : ∀ j, j < zs.length → (zs.map (fun z : Nat => (z : Int))).getD j 0 = ((zs.getD j 0 : Nat) : Int) := by
  intro j hj
  rw [List.getD_eq_getElem?_getD, List.getD_eq_getElem?_getD, List.getElem?_map, List.getElem?_eq_getElem hj]; rfl
/-- The two tables, out of the row's condition. -/
theorem tab_of_laid {W : World} {l : List (String × DataW Unit)} (hl : l = [("math/bits.deBruijn64tab", Rows.laid_math_bits_deBruijn64tab), ("torsion/modular.bases", Rows.laid_torsion_modular_bases)]) (h : laidMet Tryd.prog l W) : TabW W ∧ TabN W.heap.size := by
  subst hl
  have e1 : (Rows.laid_math_bits_deBruijn64tab : DataW Unit) = Lib.tabData .u8 (Lib.deBruijn64tab.map (fun z : Nat => (z : Int))) := by kernel_rfl
  have e2 : (Rows.laid_torsion_modular_bases : DataW Unit) = Lib.tabData .u64 [2, 3, 5, 7] := by kernel_rfl
  have h2 := laidMet.filter (fun x => x.1 == "torsion/modular.bases") h
  have e3 : ([("math/bits.deBruijn64tab", Rows.laid_math_bits_deBruijn64tab), ("torsion/modular.bases", Rows.laid_torsion_modular_bases)].filter (fun x : String × DataW Unit => x.1 == "torsion/modular.bases")) = [("torsion/modular.bases", Rows.laid_torsion_modular_bases)] := by kernel_rfl
  rw [e3, e2] at h2
  rw [e1] at h
  have T1 := Lib.tabIs_of_head (g := 1) (t := 132) (e := 5) (n := 64) (by kernel_rfl) (by kernel_rfl) Tryd.underlying132 Tryd.underlying5 (by kernel_rfl) (by kernel_rfl) h
  have T2 := Lib.tabIs_of_head (g := 0) (t := 119) (e := 39) (n := 4) (by kernel_rfl) (by kernel_rfl) Tryd.underlying119 Tryd.underlying39 (by kernel_rfl) (by kernel_rfl) h2
  have c1 : TabAt 1 Lib.deBruijn64tab W := by
    intro j hj
    have := T1.cell (g := 1) (by kernel_rfl) j (by rw [List.length_map]; exact hj)
    rw [this, tabU8 _ j hj]
  have c2 := fun i hi => T2.cell (g := 0) (by kernel_rfl) i hi
  exact ⟨⟨c1, c2 0 (by decide), c2 1 (by decide), c2 2 (by decide), c2 3 (by decide)⟩, block_lt_of_cell (c1 0 (by decide)), block_lt_of_cell (c2 0 (by decide))⟩
end Go.Proofs.YtclmenpclkmfeaaDoor
