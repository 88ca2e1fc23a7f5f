/- Contracts of torsionref02: Neg, Add, Sub, Cmp, Sign, Floor, Valid. -/
import Derived.Test.YtclmenpclkmfeaaDoorVG27CrtK
import Derived.Deep.DeepCutAuto
namespace Go.Proofs.YtclmenpclkmfeaaDoor
open Go.RowKit

set_option maxRecDepth 1000000 in
set_option maxHeartbeats 4000000 in
theorem rqvalid_z (gxn : Bool) (Axn : Option Addr) (nxn cxn : Nat) (gxd : Bool) (Axd : Option Addr) (nxd cxd : Nat) {k : Nat} {a : Rat} (w : World) (ha : IsRat w gxn Axn nxn cxn gxd Axd nxd cxd a) (sa : RSz k a) (hk : k + 1 + 1 ≤ 10000) :
    Calls Tryd.prog 32 #[.agg #[.bool gxn, .slice Axn nxn cxn, .bool gxd, .slice Axd nxd cxd]] w fun e w' => e = .returned (.bool true) ∧ Below w.heap.size w w' := by
  have B := (Below.refl w.heap.size w).alloc (Nat.le_refl _) (.cells #[.bool gxn, .slice Axn nxn cxn, .bool gxd, .slice Axd nxd cxd] 57)
  have X0 := Slot4.new w (.bool gxn) (.slice Axn nxn cxn) (.bool gxd) (.slice Axd nxd cxd) 57
  have Ix := ha.below B
  have HS1 : Hid (sgn (a.den : Int) = 1) := by
    have := a.den_pos
    show sgn (a.den : Int) = 1
    unfold sgn; rw [if_neg (by omega), if_pos (by omega)]
  have hg : ((Nat.gcd a.num.natAbs ((a.den : Int)).natAbs : Nat) : Int) = 1 := by rw [Int.natAbs_natCast]; have := a.reduced; unfold Nat.Coprime at this; omega
  have HG := Lib.hid hg
  clear ha hg
  go_enter Tryd.func32, Tryd.ntmps32
  have ⟨X0c0, X0c1, X0c2, X0c3, _⟩ := X0
  go_wp2_with fail
  (with_reducible refine (rvalid_z gxn Axn nxn cxn _ Ix.num).mono ?_)
  rintro e w1 ⟨rfl, ba⟩
  clear X0c0 X0c1 X0c2 X0c3
  replace X0 := X0.after ba
  replace Ix := Ix.below ba
  replace B := B.trans (ba.mono B.size)
  clear ba
  have ⟨X0c0, X0c1, X0c2, X0c3, _⟩ := X0
  go_wp2_with fail
  (with_reducible refine (rvalid_z gxd Axd nxd cxd _ Ix.den).mono ?_)
  rintro e w2 ⟨rfl, bb⟩
  clear X0c0 X0c1 X0c2 X0c3
  replace X0 := X0.after bb
  replace Ix := Ix.below bb
  replace B := B.trans (bb.mono B.size)
  clear bb
  have ⟨X0c0, X0c1, X0c2, X0c3, _⟩ := X0
  go_wp2_with fail
  (with_reducible refine (rsign_z gxd Axd nxd cxd _ 1 Ix.den HS1.out).mono ?_)
  rintro e w3 ⟨rfl, bc⟩
  clear X0c0 X0c1 X0c2 X0c3
  replace X0 := X0.after bc
  replace Ix := Ix.below bc
  replace B := B.trans (bc.mono B.size)
  clear bc
  have ⟨X0c0, X0c1, X0c2, X0c3, _⟩ := X0
  go_wp2_with fail
  (with_reducible refine (rgcd_z gxn gxd Axn Axd nxn cxn nxd cxd _ Ix.num Ix.den sa.num sa.den hk).mono ?_)
  rintro e w4 ⟨gd, Ad, nd, cd, rfl, id, bd⟩
  clear X0c0 X0c1 X0c2 X0c3
  replace X0 := X0.after bd
  replace Ix := Ix.below bd
  replace B := B.trans (bd.mono B.size)
  clear bd
  rw [HG.out] at id
  go_wp2_with fail
  (with_reducible refine (rof_any 1 _ (by decide) (by decide)).mono ?_)
  rintro e w5 ⟨ge, Ae, ne, ce, rfl, ie, be⟩
  replace X0 := X0.after be
  replace Ix := Ix.below be
  replace id := id.below be
  replace B := B.trans (be.mono B.size)
  clear be
  go_wp2_with fail
  (with_reducible refine (rcmp_z gd ge Ad Ae nd cd ne ce _ 0 id ie (Sz.of (by decide) (by decide) : Sz 1 1) (Sz.of (by decide) (by decide) : Sz 1 1) (cmpN_eq 1)).mono ?_)
  rintro e w6 ⟨rfl, bf⟩
  replace X0 := X0.after bf
  replace Ix := Ix.below bf
  replace id := id.below bf
  replace ie := ie.below bf
  replace B := B.trans (bf.mono B.size)
  clear bf
  go_wp2
  go_ret
  exact ⟨rfl, B⟩
end Go.Proofs.YtclmenpclkmfeaaDoor
