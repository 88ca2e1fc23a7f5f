/- Words for the rows of layer 4: lists of raw residues. -/
import Derived.Test.YtclmenpclkmfeaaDoorVRowKitC
import Derived.Test.YtclmenpclkmfeaaDoorVCrtM
import Derived.Deep.SlicePairs
namespace Go.Proofs.YtclmenpclkmfeaaDoor
open Go.ChangeShapes Go.WideShapes Go.ChangeAt Go.RowKit
set_option maxRecDepth 100000 in
theorem open_raws {H : Type} {enc : TypeId × Value → H} {W : World} {base : Nat} {v : Value} {d : DataW H} {p : List MemPlace} (hv : Value.okWide Tryd.prog W .any base 22 v)
    (h : DataW.Trod enc Tryd.prog W 0 (fun _ => true) true 22 v d p) : ∃ A n c, v = .slice A n c ∧ RawsL W A n := by
  have hu := Tryd.underlying22
  obtain ⟨A, n, c, rfl⟩ := okWide_slice hu hv
  refine ⟨A, n, c, rfl, fun hn => ?_⟩
  obtain ⟨fuel, hf⟩ := h
  have hcs : (Value.slice A n c).cells.toList = [.slice A n c] := rfl
  rw [hcs] at hf
  rcases Go.Deep.open_slice_pairs hu Tryd.underlying71 (by kernel_rfl) rfl rfl (by kernel_rfl) (by kernel_rfl) hf with ⟨hc, _⟩ | ⟨a, len, cap, m, k, V0, V1, D0, D1, P0, P1, hc, _, hl, hm, hmm, _, hall⟩
  · simp only [List.cons.injEq, and_true] at hc
    cases hc
    omega
  · simp only [List.cons.injEq, and_true] at hc
    cases hc
    simp only [if_true] at hmm
    have h0 := (hall 0 (by omega)).1
    rw [Nat.zero_mul] at h0
    have ha0 : a.add 0 = a := rfl
    rw [ha0] at h0
    obtain ⟨b, o, s⟩ := a
    have hs : s = none := by
      cases s with
      | none => rfl
      | some i =>
        exfalso
        unfold World.cell? at h0
        split at h0 <;> simp at h0
    subst hs
    refine ⟨b, o, rfl, block_lt_of_cell h0, fun k hk => ?_⟩
    obtain ⟨e0, e1, t0, t1⟩ := hall k (by omega)
    rw [Addr.add_lit] at e0 e1
    obtain ⟨x, hx, _, wx⟩ := DataW.trod_int Tryd.underlying5 t0
    obtain ⟨y, hy, _, wy⟩ := DataW.trod_int Tryd.underlying69 t1
    simp only [List.cons.injEq, and_true] at hx hy
    rw [hx] at e0
    rw [hy] at e1
    have bx := bounds_u8 wx
    have by' := bounds_u32 wy
    exact ⟨x.toNat, y.toNat, by omega, by omega, by rw [Int.toNat_of_nonneg (by omega)]; exact e0, by rw [Int.toNat_of_nonneg (by omega)]; exact e1⟩
end Go.Proofs.YtclmenpclkmfeaaDoor
