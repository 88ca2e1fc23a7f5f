/- Contract of torsionref04.rest. -/
import Derived.Test.YtclmenpclkmfeaaDoorVG27CrtK
import Derived.Test.YtclmenpclkmfeaaDoorVG26RDM
namespace Go.Proofs.YtclmenpclkmfeaaDoor
open Go.RowKit
set_option maxRecDepth 1000000 in
set_option maxHeartbeats 4000000 in
theorem rest_z (ga : Bool) (Aa : Option Addr) (na ca : Nat) (gm : Bool) (Am : Option Addr) (nm cm : Nat) {k l : Nat} {a m : Int} (w : World) (ha : IsInt w ga Aa na ca a) (hm : IsInt w gm Am nm cm m) (za : Sz k a) (zm : Sz l m) (hk : k + 1 + 1 ≤ 10000) (h0 : m ≠ 0) :
    Calls Tryd.prog 52 #[.agg #[.bool ga, .slice Aa na ca], .agg #[.bool gm, .slice Am nm cm]] w (RetInt w (a % m)) := by
  have b1 := (Below.refl w.heap.size w).alloc (Nat.le_refl _) (.cells #[.bool ga, .slice Aa na ca] 28)
  have b2 := b1.alloc b1.size (.cells #[.bool gm, .slice Am nm cm] 28)
  have B0 := b2.alloc b2.size (.cells #[.bool false, .slice none 0 0] 28)
  have P0 := ((Slot2.new w (.bool ga) (.slice Aa na ca) 28).alloc (.cells #[.bool gm, .slice Am nm cm] 28)).alloc (.cells #[.bool false, .slice none 0 0] 28)
  have Q0 := (Slot2.new (w.alloc (.cells #[.bool ga, .slice Aa na ca] 28)) (.bool gm) (.slice Am nm cm) 28).alloc (.cells #[.bool false, .slice none 0 0] 28)
  have R0 := Slot2.new ((w.alloc (.cells #[.bool ga, .slice Aa na ca] 28)).alloc (.cells #[.bool gm, .slice Am nm cm] 28)) (.bool false) (.slice none 0 0) 28
  simp only [World.size_alloc] at Q0 R0
  have Ia := ha.below B0
  have Im := hm.below B0
  clear ha hm b1 b2
  have ⟨p0, p1, _, _, _⟩ := P0
  have ⟨q0, q1, _, _, _⟩ := Q0
  go_enter Tryd.func52, Tryd.ntmps52
  go_wp2_with fail
  (with_reducible refine (rdm_z ga gm Aa Am na ca nm cm _ Ia Im za zm h0 hk).mono ?_)
  rintro e w1 ⟨g5, A5, n5, c5, g6, A6, n6, c6, rfl, hi5, hi6, hb1⟩
  have b7 := (Below.refl w1.heap.size w1).alloc (Nat.le_refl _) (.cells #[.bool g5, .slice A5 n5 c5] 28)
  have b8 := b7.alloc b7.size (.cells #[.bool g6, .slice A6 n6 c6] 28)
  have hb8 := hb1.trans (b8.mono hb1.size)
  have M8 := Slot2.new (w1.alloc (.cells #[.bool g5, .slice A5 n5 c5] 28)) (.bool g6) (.slice A6 n6 c6) 28
  rw [World.size_alloc] at M8
  have Jm := hi6.below b8
  have R8 := R0.after hb8
  have B8 := B0.trans (hb8.mono B0.size)
  clear p0 p1 q0 q1 P0 Q0 R0 B0 Ia Im b7 b8 hb1 hb8 hi5 hi6
  have ⟨x0, x1, _, _, _⟩ := M8
  have ⟨q0, q1, _, _, _⟩ := R8
  go_wp2
  exact bodyPost_ret (v := .agg #[.bool g6, .slice A6 n6 c6]) (by simp [results, Tryd.results52, go_sem, q0, q1]) rfl ⟨_, _, _, _, rfl, Jm.stored q0 q1 rfl rfl _ _, Below.set2 B8 (by omega) _ _⟩
end Go.Proofs.YtclmenpclkmfeaaDoor
