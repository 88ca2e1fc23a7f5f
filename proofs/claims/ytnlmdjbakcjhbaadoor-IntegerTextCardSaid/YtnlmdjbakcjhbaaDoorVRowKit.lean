/- Words for the rows: the settled world with its two tables laid; arguments that are integers in two parts. -/
import Derived.Test.YtnlmdjbakcjhbaaDoorCards
import Derived.Test.YtnlmdjbakcjhbaaDoorTie
import Derived.WalkKit
import Derived.ProofKit
import Derived.OpenShut
import Derived.Deep.DeepHandedRow
import Derived.Lib.LaidTab
import Derived.Lib.SmallJoins
import Derived.Carry
import Derived.Test.YtnlmdjbakcjhbaaDoorVG0Num
namespace Go.Proofs.YtnlmdjbakcjhbaaDoor
open Go.ChangeShapes Go.WideShapes Go.ChangeAt Go.RowKit
theorem ownK : ownKnob Tryd.prog.godebug = none := by kernel_rfl
theorem laidOut : laidOutB Tryd.prog = true := by kernel_rfl
theorem cellsU32 : Tryd.prog.cellsOf 67 = 1 := by kernel_rfl
def layRow (cs : Array Value) : Obj → Obj
  | .cells _ t frozen => .cells cs t frozen
  | o => o
/-- A world for the witness: the settled one, the two tables holding what their initialisers lay. -/
noncomputable def laidWorld (os : Os) : World :=
  { World.holding Tryd.prog os ⟨#[], #[], []⟩ with heap := ((World.holding Tryd.prog os ⟨#[], #[], []⟩).heap.modify 3 (layRow #[.int .u8 128, .int .u8 191, .int .u8 160, .int .u8 191, .int .u8 128, .int .u8 159, .int .u8 144, .int .u8 191, .int .u8 128, .int .u8 143, .int .u8 0, .int .u8 0, .int .u8 0, .int .u8 0, .int .u8 0, .int .u8 0, .int .u8 0, .int .u8 0, .int .u8 0, .int .u8 0, .int .u8 0, .int .u8 0, .int .u8 0, .int .u8 0, .int .u8 0, .int .u8 0, .int .u8 0, .int .u8 0, .int .u8 0, .int .u8 0, .int .u8 0, .int .u8 0])).modify 2 (layRow (Go.Pinned.utf8FirstZ.map fun (n : Nat) => Value.int .u8 (n : Int)).toArray) }
/-- The limbs of an argument's slice. -/
theorem lim_of {w : World} {a : Addr} {len cap : Nat} {zs : List Int} (hl : len ≤ cap) (hm : cap ≤ maxLen) (hz : zs.length = cap)
    (hcell : ∀ i, i < zs.length → w.cell? (a.add i) = some (.int .u32 (zs.getD i 0))) (hw : ∀ n ∈ zs, (Lit.int .u32 n).wf = true) :
    ∃ xs, Lim w w.heap.size (some a) len cap xs := by
  refine ⟨(zs.take len).map Int.toNat, ⟨hl, by unfold maxLen at hm; omega⟩, by simp; omega, ?_, ?_⟩
  · intro x hx
    obtain ⟨z, hz', rfl⟩ := List.mem_map.1 hx
    have := bounds_u32 (hw z (List.mem_of_mem_take hz'))
    omega
  · intro h0
    refine ⟨a, rfl, ?_, fun k hk => ?_⟩
    · have h := hcell 0 (by omega)
      have h2 := block_lt_of_cell h
      rwa [block_add] at h2
    · rw [hcell k (by omega)]
      have hb := bounds_u32 (hw (zs.getD k 0) (by rw [List.getD_eq_getElem?_getD, List.getElem?_eq_getElem (by omega)]; exact List.getElem_mem _))
      congr 2
      rw [List.getD_eq_getElem?_getD (l := (zs.take len).map Int.toNat), List.getElem?_map, List.getElem?_take, if_pos hk]
      rw [List.getD_eq_getElem?_getD, List.getElem?_eq_getElem (by omega)] at hb ⊢
      simp only [Option.map_some, Option.getD_some] at hb ⊢
      omega
set_option maxRecDepth 100000 in
theorem open_raw {H : Type} {enc : TypeId × Value → H} {W : World} {base : Nat} {v : Value} {d : DataW H} {p : List MemPlace} (hv : Value.okWide Tryd.prog W .any base 24 v)
    (h : DataW.Trod enc Tryd.prog W 0 (fun _ => true) true 24 v d p) : ∃ A n c neg xs, v = .agg #[.slice A n c, .bool neg] ∧ Lim W W.heap.size A n c xs := by
  obtain ⟨v0, v1, y0, y1, m, rfl, rfl, rfl, h0, h1⟩ := Joins.open_agg2 Tryd.underlying24 (by kernel_rfl) (by kernel_rfl) hv h
  obtain ⟨b, hb⟩ : ∃ b, v1 = .bool b := by
    obtain ⟨b, hb, _⟩ := DataW.trod_bool Tryd.underlying4 h1
    exact ⟨b, by simpa using hb⟩
  rcases open_ints Tryd.underlying22 Tryd.underlying67 cellsU32 h0 with ⟨hc, _⟩ | ⟨a, len, cap, zs, hc, _, hl, hm, hz, _, hcell, hw⟩
  · cases hc
    exact ⟨none, 0, 0, b, [], by rw [hb], Lim.none_ (by omega)⟩
  · cases hc
    obtain ⟨xs, hx⟩ := lim_of hl hm hz hcell hw
    exact ⟨_, _, _, b, xs, by rw [hb], hx⟩
end Go.Proofs.YtnlmdjbakcjhbaaDoor
