/- Contract of torsionref04.Rational. -/
import Derived.Test.YtclmenpclkmfeaaDoorVCrtRM
import Derived.Test.YtclmenpclkmfeaaDoorVG29CrtL
import Derived.Test.YtclmenpclkmfeaaDoorVCrtQ
import Derived.Test.YtclmenpclkmfeaaDoorVCrtRest
import Derived.Test.YtclmenpclkmfeaaDoorVG27CrtK
namespace Go.Proofs.YtclmenpclkmfeaaDoor
open Go.RowKit
theorem cmp_le1 {a b t : Int} (ht : cmpN a b = t) (h : a ≤ b) : decide (t ≤ 0) = true := by rw [← ht, cmp_le]; exact decide_eq_true h
theorem cmp_le0 {a b t : Int} (ht : cmpN a b = t) (h : b < a) : decide (t ≤ 0) = false := by rw [← ht, cmp_le]; exact decide_eq_false (by omega)
theorem not_good {a m r : Int} {k : Nat} (hb : 2 * (r * r) < m) (h : Hid (∀ n d : Int, d < (k : Int) → ¬ Good a m r n d)) (hk : r < (nearR (a * k % m) r m).natAbs ∨ Nat.gcd (k : Int).natAbs m.natAbs ≠ 1) : Hid (∀ n d : Int, d < ((k + 1 : Nat) : Int) → ¬ Good a m r n d) := fun n d hd hg => by
  rcases Int.lt_or_le d k with h1 | h1
  · exact h.out n d h1 hg
  · obtain rfl : d = (k : Int) := by omega
    rcases hk with h2 | h2
    · have := hg.here hb
      have := hg.nlo
      have := hg.nhi
      omega
    · exact h2 hg.cop

set_option maxRecDepth 1000000 in
set_option maxHeartbeats 8000000 in
theorem rrat_small (ga : Bool) (Aa : Option Addr) (na ca : Nat) (gm : Bool) (Am : Option Addr) (nm cm : Nat) {a m : Int} (w : World)
    (ha : IsInt w ga Aa na ca a) (hm : IsInt w gm Am nm cm m) (Zm : Sz 1 m)  (h0 : m < 2) :
    Calls Tryd.prog 28 #[.agg #[.bool ga, .slice Aa na ca], .agg #[.bool gm, .slice Am nm cm]] w (fun e w' => e = .returned (.tuple #[.agg #[.bool false, .slice none 0 0, .bool false, .slice none 0 0], .int .i64 1]) ∧ Below w.heap.size w w') := by
  have a1 := (Below.refl w.heap.size w).alloc (Nat.le_refl _) (.cells #[.bool ga, .slice Aa na ca] 28)
  have a2 := a1.alloc a1.size (.cells #[.bool gm, .slice Am nm cm] 28)
  have B := a2.alloc a2.size (.cells #[.bool false, .slice none 0 0, .bool false, .slice none 0 0] 57)
  have Pa := ((Slot2.new w (.bool ga) (.slice Aa na ca) 28).alloc (.cells #[.bool gm, .slice Am nm cm] 28)).alloc (.cells #[.bool false, .slice none 0 0, .bool false, .slice none 0 0] 57)
  have Pm := (Slot2.new (w.alloc (.cells #[.bool ga, .slice Aa na ca] 28)) (.bool gm) (.slice Am nm cm) 28).alloc (.cells #[.bool false, .slice none 0 0, .bool false, .slice none 0 0] 57)
  have R := Slot4.new ((w.alloc (.cells #[.bool ga, .slice Aa na ca] 28)).alloc (.cells #[.bool gm, .slice Am nm cm] 28)) (.bool false) (.slice none 0 0) (.bool false) (.slice none 0 0) 57
  simp only [World.size_alloc] at Pm R
  have Ia := ha.below B
  have Im := hm.below B
  obtain ⟨t, ht⟩ : ∃ t, cmpN m 2 = t := ⟨_, rfl⟩
  have ht0 : decide (t < 0) = true := by rw [← ht, cmp_lt]; exact decide_eq_true h0
  have HT := Lib.hid ht
  have Z2 : Sz 1 (2 : Int) := Sz.of (by decide) (by decide)
  clear ha hm a1 a2 ht
  go_enter Tryd.func28, Tryd.ntmps28
  generalize hW : ((w.alloc (.cells #[.bool ga, .slice Aa na ca] 28)).alloc (.cells #[.bool gm, .slice Am nm cm] 28)).alloc (.cells #[.bool false, .slice none 0 0, .bool false, .slice none 0 0] 57) = W0 at *
  go_wp2_with fail
  try rw [hW]
  clear hW
  (with_reducible refine (rof_any 1 _ (by decide) (by decide)).mono ?_)
  rintro e w1 ⟨go, Ao, no, co, rfl, io, bo⟩
  replace Pa := Pa.after bo
  replace Pm := Pm.after bo
  replace R := R.after bo
  replace Ia := Ia.below bo
  replace Im := Im.below bo
  replace B := B.trans (bo.mono B.size)
  clear bo
  have hal := (Below.refl w1.heap.size w1).alloc (Nat.le_refl _) (.cells #[.bool go, .slice Ao no co] 28)
  have So := Slot2.new w1 (.bool go) (.slice Ao no co) 28
  replace Pa := Pa.after hal
  replace Pm := Pm.after hal
  replace R := R.after hal
  replace Ia := Ia.below hal
  replace Im := Im.below hal
  replace io := io.below hal
  replace B := B.trans (hal.mono B.size)
  clear hal
  obtain ⟨g6, hg6⟩ : ∃ x, x = w1.heap.size := ⟨_, rfl⟩
  go_upto_region 2 with (fail)
  generalize (w1.alloc (.cells #[.bool go, .slice Ao no co] 28)) = W2 at *
  rw [← hg6] at So ⊢
  clear hg6
  have HS : Hid (∀ V, Below W2.heap.size W2 V → (V.cell? ⟨w.heap.size + 1, 0, none⟩ = some (.bool gm) ∧ V.cell? ⟨w.heap.size + 1, 1, none⟩ = some (.slice Am nm cm))) := fun V hV => ⟨(Pm.after hV).1, (Pm.after hV).2.1⟩
  have Dp0 : Below W2.heap.size W2 W2.drew := (Below.refl _ _).drew
  refine wp_region_seq (.pre [(0, true), (1, false), (2, false), (3, true)] .done) (fun W => (W.cell? ⟨w.heap.size + 1, 0, none⟩ = some (.bool gm) ∧ W.cell? ⟨w.heap.size + 1, 1, none⟩ = some (.slice Am nm cm))) (by kernel_rfl) (by kernel_rfl) ?_ (by kernel_rfl) (HS.out _ Dp0) ?_
  · refine chk_pre _ _ _ (by as_aux_lemma => kernel_rfl) ?_
    exact (by as_aux_lemma => kernel_rfl)
  refine seq_take _ ?_ rfl (Or.inl ⟨by rfl, ?_⟩) ?_
  rotate_left
  · (intro w hSw; (try dsimp only at hSw); go_simp; (try with_reducible rfl))
  try simp only [Act.put, List.setIfInBounds_toArray, List.set_cons_zero, List.set_cons_succ]
  refine seq_one _ rfl fun K hK => ?_
  go_simp
  (with_reducible refine (rof_any 2 _ (by decide) (by decide)).mono ?_)
  rintro e vp1 ⟨gp1, Ap1, np1, cp1, rfl, ip1, bp1⟩
  have Dp1 : Below W2.heap.size W2 vp1 := Below.trans Dp0 (bp1.mono (Below.size Dp0))
  go_wp2_with fail
  refine hK.out _ _ (HS.out _ Dp1) (fun hHeld => ?_)
  clear hK K hHeld
  try simp only [Act.put, List.setIfInBounds_toArray, List.set_cons_zero, List.set_cons_succ]
  refine seq_one _ rfl fun K hK => ?_
  go_simp
  (with_reducible refine (rcmp_z gm gp1 Am Ap1 nm cm np1 cp1 _ t (Im.below Dp1) ip1 Zm Z2 HT.out).mono ?_)
  rintro e vp2 ⟨rfl, bp2⟩
  have Dp2 : Below W2.heap.size W2 vp2 := Below.trans Dp1 (bp2.mono (Below.size Dp1))
  go_wp2_with fail
  refine hK.out _ _ (HS.out _ Dp2) (fun hHeld => ?_)
  clear hK K hHeld
  try simp only [Act.put, List.setIfInBounds_toArray, List.set_cons_zero, List.set_cons_succ]
  refine seq_take _ ?_ rfl (Or.inl ⟨by rfl, ?_⟩) ?_
  rotate_left
  · (intro w hSw; (try dsimp only at hSw); go_simp; (try with_reducible rfl))
  try simp only [Act.put, List.setIfInBounds_toArray, List.set_cons_zero, List.set_cons_succ]
  refine NoPanic.normal ?_
  replace Pa := Pa.after Dp2
  replace Pm := Pm.after Dp2
  replace R := R.after Dp2
  replace Ia := Ia.below Dp2
  replace Im := Im.below Dp2
  replace io := io.below Dp2
  replace So := So.after Dp2
  replace B := B.trans (Dp2.mono B.size)
  clear HS Dp0 Dp1 bp1 bp2 ip1 Dp2
  have ⟨r0, r1, r2, r3, k0, k1, k2, k3, _⟩ := R
  go_wp2
  refine bodyPost_ret (v := .tuple #[.agg #[.bool false, .slice none 0 0, .bool false, .slice none 0 0], .int .i64 1]) (by obtain ⟨v0, v1, v2, v3⟩ := R.set4e (.bool false) (.slice none 0 0) (.bool false) (.slice none 0 0); simp [results, Tryd.results28, go_sem, v0, v1, v2, v3]) rfl ⟨rfl, ?_⟩
  exact Below.set4 B (by omega) _ _ _ _
set_option maxRecDepth 1000000 in
set_option maxHeartbeats 8000000 in
theorem rrat_z (ga : Bool) (Aa : Option Addr) (na ca : Nat) (gm : Bool) (Am : Option Addr) (nm cm : Nat) {k : Nat} {a m : Int} (w : World)
    (ha : IsInt w ga Aa na ca a) (hm : IsInt w gm Am nm cm m) (Zm : Sz 1 m) (Za : Sz k a) (hk : k ≤ 100) (h0 : 2 ≤ m) (h1 : m ≤ 1000000) :
    Calls Tryd.prog 28 #[.agg #[.bool ga, .slice Aa na ca], .agg #[.bool gm, .slice Am nm cm]] w (RetCR w a m) := by
  have a1 := (Below.refl w.heap.size w).alloc (Nat.le_refl _) (.cells #[.bool ga, .slice Aa na ca] 28)
  have a2 := a1.alloc a1.size (.cells #[.bool gm, .slice Am nm cm] 28)
  have B := a2.alloc a2.size (.cells #[.bool false, .slice none 0 0, .bool false, .slice none 0 0] 57)
  have Pa := ((Slot2.new w (.bool ga) (.slice Aa na ca) 28).alloc (.cells #[.bool gm, .slice Am nm cm] 28)).alloc (.cells #[.bool false, .slice none 0 0, .bool false, .slice none 0 0] 57)
  have Pm := (Slot2.new (w.alloc (.cells #[.bool ga, .slice Aa na ca] 28)) (.bool gm) (.slice Am nm cm) 28).alloc (.cells #[.bool false, .slice none 0 0, .bool false, .slice none 0 0] 57)
  have R := Slot4.new ((w.alloc (.cells #[.bool ga, .slice Aa na ca] 28)).alloc (.cells #[.bool gm, .slice Am nm cm] 28)) (.bool false) (.slice none 0 0) (.bool false) (.slice none 0 0) 57
  simp only [World.size_alloc] at Pm R
  have Ia := ha.below B
  have Im := hm.below B
  obtain ⟨t, ht⟩ : ∃ t, cmpN m 2 = t := ⟨_, rfl⟩
  have ht0 : decide (t < 0) = false := by rw [← ht, cmp_lt]; exact decide_eq_false (by omega)
  have HT := Lib.hid ht
  have Z2 : Sz 1 (2 : Int) := Sz.of (by decide) (by decide)
  clear ha hm a1 a2 ht
  go_enter Tryd.func28, Tryd.ntmps28
  generalize hW : ((w.alloc (.cells #[.bool ga, .slice Aa na ca] 28)).alloc (.cells #[.bool gm, .slice Am nm cm] 28)).alloc (.cells #[.bool false, .slice none 0 0, .bool false, .slice none 0 0] 57) = W0 at *
  go_wp2_with fail
  try rw [hW]
  clear hW
  (with_reducible refine (rof_any 1 _ (by decide) (by decide)).mono ?_)
  rintro e w1 ⟨go, Ao, no, co, rfl, io, bo⟩
  replace Pa := Pa.after bo
  replace Pm := Pm.after bo
  replace R := R.after bo
  replace Ia := Ia.below bo
  replace Im := Im.below bo
  replace B := B.trans (bo.mono B.size)
  clear bo
  have hal := (Below.refl w1.heap.size w1).alloc (Nat.le_refl _) (.cells #[.bool go, .slice Ao no co] 28)
  have So := Slot2.new w1 (.bool go) (.slice Ao no co) 28
  replace Pa := Pa.after hal
  replace Pm := Pm.after hal
  replace R := R.after hal
  replace Ia := Ia.below hal
  replace Im := Im.below hal
  replace io := io.below hal
  replace B := B.trans (hal.mono B.size)
  clear hal
  obtain ⟨g6, hg6⟩ : ∃ x, x = w1.heap.size := ⟨_, rfl⟩
  go_upto_region 2 with (fail)
  generalize (w1.alloc (.cells #[.bool go, .slice Ao no co] 28)) = W2 at *
  rw [← hg6] at So ⊢
  clear hg6
  have HS : Hid (∀ V, Below W2.heap.size W2 V → (V.cell? ⟨w.heap.size + 1, 0, none⟩ = some (.bool gm) ∧ V.cell? ⟨w.heap.size + 1, 1, none⟩ = some (.slice Am nm cm))) := fun V hV => ⟨(Pm.after hV).1, (Pm.after hV).2.1⟩
  have Dp0 : Below W2.heap.size W2 W2.drew := (Below.refl _ _).drew
  refine wp_region_seq (.pre [(0, true), (1, false), (2, false), (3, true)] .done) (fun W => (W.cell? ⟨w.heap.size + 1, 0, none⟩ = some (.bool gm) ∧ W.cell? ⟨w.heap.size + 1, 1, none⟩ = some (.slice Am nm cm))) (by kernel_rfl) (by kernel_rfl) ?_ (by kernel_rfl) (HS.out _ Dp0) ?_
  · refine chk_pre _ _ _ (by as_aux_lemma => kernel_rfl) ?_
    exact (by as_aux_lemma => kernel_rfl)
  refine seq_take _ ?_ rfl (Or.inl ⟨by rfl, ?_⟩) ?_
  rotate_left
  · (intro w hSw; (try dsimp only at hSw); go_simp; (try with_reducible rfl))
  try simp only [Act.put, List.setIfInBounds_toArray, List.set_cons_zero, List.set_cons_succ]
  refine seq_one _ rfl fun K hK => ?_
  go_simp
  (with_reducible refine (rof_any 2 _ (by decide) (by decide)).mono ?_)
  rintro e vp1 ⟨gp1, Ap1, np1, cp1, rfl, ip1, bp1⟩
  have Dp1 : Below W2.heap.size W2 vp1 := Below.trans Dp0 (bp1.mono (Below.size Dp0))
  go_wp2_with fail
  refine hK.out _ _ (HS.out _ Dp1) (fun hHeld => ?_)
  clear hK K hHeld
  try simp only [Act.put, List.setIfInBounds_toArray, List.set_cons_zero, List.set_cons_succ]
  refine seq_one _ rfl fun K hK => ?_
  go_simp
  (with_reducible refine (rcmp_z gm gp1 Am Ap1 nm cm np1 cp1 _ t (Im.below Dp1) ip1 Zm Z2 HT.out).mono ?_)
  rintro e vp2 ⟨rfl, bp2⟩
  have Dp2 : Below W2.heap.size W2 vp2 := Below.trans Dp1 (bp2.mono (Below.size Dp1))
  go_wp2_with fail
  refine hK.out _ _ (HS.out _ Dp2) (fun hHeld => ?_)
  clear hK K hHeld
  try simp only [Act.put, List.setIfInBounds_toArray, List.set_cons_zero, List.set_cons_succ]
  refine seq_take _ ?_ rfl (Or.inl ⟨by rfl, ?_⟩) ?_
  rotate_left
  · (intro w hSw; (try dsimp only at hSw); go_simp; (try with_reducible rfl))
  try simp only [Act.put, List.setIfInBounds_toArray, List.set_cons_zero, List.set_cons_succ]
  refine NoPanic.normal ?_
  replace Pa := Pa.after Dp2
  replace Pm := Pm.after Dp2
  replace R := R.after Dp2
  replace Ia := Ia.below Dp2
  replace Im := Im.below Dp2
  replace io := io.below Dp2
  replace So := So.after Dp2
  replace B := B.trans (Dp2.mono B.size)
  clear HS Dp0 Dp1 bp1 bp2 ip1 Dp2
  have ⟨Pmc0, Pmc1, _⟩ := Pm
  go_wp2_with fail
  (with_reducible refine (limit_z gm Am nm cm _ Im Zm (by decide) (by decide) (by omega)).mono ?_)
  rintro e w3 ⟨r, ⟨gr, Ar, nr, cr, rfl, ir, br⟩, HBd⟩
  clear Pmc0 Pmc1
  replace Pa := Pa.after br
  replace Pm := Pm.after br
  replace R := R.after br
  replace Ia := Ia.below br
  replace Im := Im.below br
  replace io := io.below br
  replace So := So.after br
  replace B := B.trans (br.mono B.size)
  clear br
  have hal := (Below.refl w3.heap.size w3).alloc (Nat.le_refl _) (.cells #[.bool gr, .slice Ar nr cr] 28)
  have Sr := Slot2.new w3 (.bool gr) (.slice Ar nr cr) 28
  replace Pa := Pa.after hal
  replace Pm := Pm.after hal
  replace R := R.after hal
  replace Ia := Ia.below hal
  replace Im := Im.below hal
  replace io := io.below hal
  replace So := So.after hal
  replace ir := ir.below hal
  replace B := B.trans (hal.mono B.size)
  clear hal
  obtain ⟨g7, hg7⟩ : ∃ x, x = w3.heap.size := ⟨_, rfl⟩
  go_upto_region 5 with (fail)
  generalize (w3.alloc (.cells #[.bool gr, .slice Ar nr cr] 28)) = W4 at *
  rw [← hg7] at Sr ⊢
  clear hg7
  have hbl := HBd.out.lt h0
  have hrs := HBd.out.small h1
  have HBL := Lib.hid hbl.1
  have Zr : Sz 1 (r : Int) := Sz.of (by omega) (by decide)
  have hgR : w.heap.size + 1 + 1 < W4.heap.size := R.2.2.2.2.2.2.2.2
  go_wp2_with fail
  go_loopw [8] (fun s8 wr => ∃ dd : Nat, s8 = .int .i64 (dd : Int) ∧ 1 ≤ dd ∧ dd ≤ r + 1 ∧ Below W4.heap.size W4 wr ∧ Hid (∀ n d : Int, d < (dd : Int) → ¬ Good a m (r : Int) n d)) (fun s8 _ => r + 1 - (intOf s8).toNat)
  case atStart => exact ⟨1, rfl, Nat.le_refl _, by omega, (Below.refl _ _), fun n d h hg => by have := hg.dpos; omega⟩
  case round =>
    obtain ⟨dd, rfl, hd1, hd2, D, HN⟩ := hrel
    have hdk : decide ((dd : Int) ≤ 1000) = true := decide_eq_true (by omega)
    have Zd : Sz 1 (dd : Int) := Sz.of (by omega) (by decide)
    obtain ⟨t1, ht1⟩ : ∃ t, cmpN (dd : Int) (r : Int) = t := ⟨_, rfl⟩
    have HT1 := Lib.hid ht1
    replace Pa := Pa.after D
    replace Pm := Pm.after D
    replace R := R.after D
    replace So := So.after D
    replace Sr := Sr.after D
    replace Ia := Ia.below D
    replace Im := Im.below D
    replace io := io.below D
    replace ir := ir.below D
    replace B := B.trans (D.mono B.size)
    have HS : Hid (∀ V, Below wr.heap.size wr V → (V.cell? ⟨g7, 0, none⟩ = some (.bool gr) ∧ V.cell? ⟨g7, 1, none⟩ = some (.slice Ar nr cr))) := fun V hV => ⟨(Sr.after hV).1, (Sr.after hV).2.1⟩
    rcases Nat.lt_or_ge r dd with hrd | hrd
    · have hs1 := cmp_le0 ht1 (show (r : Int) < (dd : Int) by omega)
      have HND : Hid (∀ n d, ¬ Good a m (r : Int) n d) := fun n d hg => HN.out n d (by have := hg.dhi; omega) hg
      clear ht1
      go_upto_region 6 with (fail)
      have Dp0 : Below wr.heap.size wr wr.drew := (Below.refl _ _).drew
      refine wp_region_seq (.pre [(0, true), (1, true), (2, true), (3, true), (5, true), (4, false), (6, false), (7, true), (8, true)] .done) (fun W => (W.cell? ⟨g7, 0, none⟩ = some (.bool gr) ∧ W.cell? ⟨g7, 1, none⟩ = some (.slice Ar nr cr))) (by kernel_rfl) (by kernel_rfl) ?_ (by kernel_rfl) (HS.out _ Dp0) ?_
      · refine chk_pre _ _ _ (by as_aux_lemma => kernel_rfl) ?_
        exact (by as_aux_lemma => kernel_rfl)
      refine seq_take _ ?_ rfl (Or.inl ⟨by rfl, ?_⟩) ?_
      rotate_left
      · (intro w hSw; (try dsimp only at hSw); go_simp; (try with_reducible rfl))
      try simp only [Act.put, List.setIfInBounds_toArray, List.set_cons_zero, List.set_cons_succ]
      refine seq_take _ ?_ rfl (Or.inl ⟨by rfl, ?_⟩) ?_
      rotate_left
      · (intro w hSw; (try dsimp only at hSw); go_simp; (try with_reducible rfl))
      try simp only [Act.put, List.setIfInBounds_toArray, List.set_cons_zero, List.set_cons_succ]
      refine seq_take _ ?_ rfl (Or.inl ⟨by rfl, ?_⟩) ?_
      rotate_left
      · (intro w hSw; (try dsimp only at hSw); go_simp; (try with_reducible rfl))
      try simp only [Act.put, List.setIfInBounds_toArray, List.set_cons_zero, List.set_cons_succ]
      refine seq_take _ ?_ rfl (Or.inl ⟨by rfl, ?_⟩) ?_
      rotate_left
      · (intro w hSw; (try dsimp only at hSw); go_simp; (try with_reducible rfl))
      try simp only [Act.put, List.setIfInBounds_toArray, List.set_cons_zero, List.set_cons_succ]
      refine seq_take _ ?_ rfl (Or.inl ⟨by rfl, ?_⟩) ?_
      rotate_left
      · (intro w hSw; (try dsimp only at hSw); go_simp; (try with_reducible rfl))
      try simp only [Act.put, List.setIfInBounds_toArray, List.set_cons_zero, List.set_cons_succ]
      refine seq_one _ rfl fun K hK => ?_
      go_simp
      (with_reducible refine (rof_any (dd : Int) _ (by omega) (by omega)).mono ?_)
      rintro e vp1 ⟨gp1, Ap1, np1, cp1, rfl, ip1, bp1⟩
      have Dp1 : Below wr.heap.size wr vp1 := Below.trans Dp0 (bp1.mono (Below.size Dp0))
      go_wp2_with fail
      refine hK.out _ _ (HS.out _ Dp1) (fun hHeld => ?_)
      clear hK K hHeld
      try simp only [Act.put, List.setIfInBounds_toArray, List.set_cons_zero, List.set_cons_succ]
      refine seq_one _ rfl fun K hK => ?_
      go_simp
      (with_reducible refine (rcmp_z gp1 gr Ap1 Ar np1 cp1 nr cr _ t1 ip1 (ir.below Dp1) Zd Zr HT1.out).mono ?_)
      rintro e vp2 ⟨rfl, bp2⟩
      have Dp2 : Below wr.heap.size wr vp2 := Below.trans Dp1 (bp2.mono (Below.size Dp1))
      go_wp2_with fail
      refine hK.out _ _ (HS.out _ Dp2) (fun hHeld => ?_)
      clear hK K hHeld
      try simp only [Act.put, List.setIfInBounds_toArray, List.set_cons_zero, List.set_cons_succ]
      refine seq_take _ ?_ rfl (Or.inl ⟨by rfl, ?_⟩) ?_
      rotate_left
      · (intro w hSw; (try dsimp only at hSw); go_simp; (try with_reducible rfl))
      try simp only [Act.put, List.setIfInBounds_toArray, List.set_cons_zero, List.set_cons_succ]
      refine seq_take _ ?_ rfl (Or.inl ⟨by rfl, ?_⟩) ?_
      rotate_left
      · (intro w hSw; (try dsimp only at hSw); go_simp; (try with_reducible rfl))
      try simp only [Act.put, List.setIfInBounds_toArray, List.set_cons_zero, List.set_cons_succ]
      refine NoPanic.normal ?_
      have R2 := R.after Dp2
      have B2 := B.trans (Dp2.mono B.size)
      have ⟨r0, r1, r2, r3, k0, k1, k2, k3, _⟩ := R2
      go_wp2
      refine bodyPost_ret (v := .tuple #[.agg #[.bool false, .slice none 0 0, .bool false, .slice none 0 0], .int .i64 41]) (by obtain ⟨v0, v1, v2, v3⟩ := R2.set4e (.bool false) (.slice none 0 0) (.bool false) (.slice none 0 0); simp [results, Tryd.results28, go_sem, v0, v1, v2, v3]) rfl ⟨r, HBd, .inr ⟨rfl, ?_, HND⟩⟩
      exact Below.set4 B2 (by omega) _ _ _ _
    · have hs1 := cmp_le1 ht1 (show (dd : Int) ≤ (r : Int) by omega)
      clear ht1
      go_upto_region 6 with (fail)
      have Dp0 : Below wr.heap.size wr wr.drew := (Below.refl _ _).drew
      refine wp_region_seq (.pre [(0, true), (1, true), (2, true), (3, true), (5, true), (4, false), (6, false), (7, true), (8, true)] .done) (fun W => (W.cell? ⟨g7, 0, none⟩ = some (.bool gr) ∧ W.cell? ⟨g7, 1, none⟩ = some (.slice Ar nr cr))) (by kernel_rfl) (by kernel_rfl) ?_ (by kernel_rfl) (HS.out _ Dp0) ?_
      · refine chk_pre _ _ _ (by as_aux_lemma => kernel_rfl) ?_
        exact (by as_aux_lemma => kernel_rfl)
      refine seq_take _ ?_ rfl (Or.inl ⟨by rfl, ?_⟩) ?_
      rotate_left
      · (intro w hSw; (try dsimp only at hSw); go_simp; (try with_reducible rfl))
      try simp only [Act.put, List.setIfInBounds_toArray, List.set_cons_zero, List.set_cons_succ]
      refine seq_take _ ?_ rfl (Or.inl ⟨by rfl, ?_⟩) ?_
      rotate_left
      · (intro w hSw; (try dsimp only at hSw); go_simp; (try with_reducible rfl))
      try simp only [Act.put, List.setIfInBounds_toArray, List.set_cons_zero, List.set_cons_succ]
      refine seq_take _ ?_ rfl (Or.inl ⟨by rfl, ?_⟩) ?_
      rotate_left
      · (intro w hSw; (try dsimp only at hSw); go_simp; (try with_reducible rfl))
      try simp only [Act.put, List.setIfInBounds_toArray, List.set_cons_zero, List.set_cons_succ]
      refine seq_take _ ?_ rfl (Or.inl ⟨by rfl, ?_⟩) ?_
      rotate_left
      · (intro w hSw; (try dsimp only at hSw); go_simp; (try with_reducible rfl))
      try simp only [Act.put, List.setIfInBounds_toArray, List.set_cons_zero, List.set_cons_succ]
      refine seq_take _ ?_ rfl (Or.inl ⟨by rfl, ?_⟩) ?_
      rotate_left
      · (intro w hSw; (try dsimp only at hSw); go_simp; (try with_reducible rfl))
      try simp only [Act.put, List.setIfInBounds_toArray, List.set_cons_zero, List.set_cons_succ]
      refine seq_one _ rfl fun K hK => ?_
      go_simp
      (with_reducible refine (rof_any (dd : Int) _ (by omega) (by omega)).mono ?_)
      rintro e vp1 ⟨gp1, Ap1, np1, cp1, rfl, ip1, bp1⟩
      have Dp1 : Below wr.heap.size wr vp1 := Below.trans Dp0 (bp1.mono (Below.size Dp0))
      go_wp2_with fail
      refine hK.out _ _ (HS.out _ Dp1) (fun hHeld => ?_)
      clear hK K hHeld
      try simp only [Act.put, List.setIfInBounds_toArray, List.set_cons_zero, List.set_cons_succ]
      refine seq_one _ rfl fun K hK => ?_
      go_simp
      (with_reducible refine (rcmp_z gp1 gr Ap1 Ar np1 cp1 nr cr _ t1 ip1 (ir.below Dp1) Zd Zr HT1.out).mono ?_)
      rintro e vp2 ⟨rfl, bp2⟩
      have Dp2 : Below wr.heap.size wr vp2 := Below.trans Dp1 (bp2.mono (Below.size Dp1))
      go_wp2_with fail
      refine hK.out _ _ (HS.out _ Dp2) (fun hHeld => ?_)
      clear hK K hHeld
      try simp only [Act.put, List.setIfInBounds_toArray, List.set_cons_zero, List.set_cons_succ]
      refine seq_take _ ?_ rfl (Or.inl ⟨by rfl, ?_⟩) ?_
      rotate_left
      · (intro w hSw; (try dsimp only at hSw); go_simp; (try with_reducible rfl))
      try simp only [Act.put, List.setIfInBounds_toArray, List.set_cons_zero, List.set_cons_succ]
      refine seq_take _ ?_ rfl (Or.inl ⟨by rfl, ?_⟩) ?_
      rotate_left
      · (intro w hSw; (try dsimp only at hSw); go_simp; (try with_reducible rfl))
      try simp only [Act.put, List.setIfInBounds_toArray, List.set_cons_zero, List.set_cons_succ]
      refine NoPanic.normal ?_
      have D8 := Dp2
      clear HS Dp0 Dp1 ip1 bp1 bp2
      generalize vp2 = W8 at *
      go_wp2_with fail
      have HX : Hid (∀ V, Below W8.heap.size W8 V → ((V.cell? ⟨w.heap.size, 0, none⟩ = some (.bool ga) ∧ V.cell? ⟨w.heap.size, 1, none⟩ = some (.slice Aa na ca))) ∧ (V.cell? ⟨w.heap.size + 1, 0, none⟩ = some (.bool gm) ∧ V.cell? ⟨w.heap.size + 1, 1, none⟩ = some (.slice Am nm cm))) := fun V hV => by
        have hB := D8.trans (hV.mono D8.size)
        exact ⟨⟨(Pa.after hB).1, (Pa.after hB).2.1⟩, (Pm.after hB).1, (Pm.after hB).2.1⟩
      have HI : Hid (∀ V, Below W8.heap.size W8 V → IsInt V ga Aa na ca a ∧ IsInt V gm Am nm cm m) := fun V hV => by
        have hB := D8.trans (hV.mono D8.size)
        exact ⟨Ia.below hB, Im.below hB⟩
      have Zad := Za.mul Zd (by omega)
      have Zu : Sz 1 (a * (dd : Int) % m) := Sz.mod Zm (by omega)
      have Hkk : k + 1 + 1 + 1 ≤ 10000 := by omega
      have Hm0 : m ≠ 0 := by omega
      have Hdl : -9223372036854775808 ≤ (dd : Int) ∧ (dd : Int) ≤ 9223372036854775807 := by omega
      refine wp_region_ev (fun d a0 a' w' => ∃ u31 u32 u33 u34 u35 u36 u9 : Value, a' = (((((((a0.put (some 31) u31).put (some 32) u32).put (some 33) u33).put (some 34) u34).put (some 35) u35).put (some 36) u36).put (some 9) u9) ∧ Below W8.heap.size W8 w' ∧ (d 0 = true → u31 = .agg #[.bool ga, .slice Aa na ca]) ∧ (d 1 = true → u32 = .int .i64 (dd : Int)) ∧ (d 2 = true → IntV w' u33 ((dd : Int))) ∧ (d 3 = true → IntV w' u34 (a * (dd : Int))) ∧ (d 4 = true → u35 = .agg #[.bool gm, .slice Am nm cm]) ∧ (d 5 = true → IntV w' u36 (a * (dd : Int) % m)) ∧ (d 6 = true → OwnP W8.heap.size w' u9 (d 7) (a * (dd : Int) % m)) ∧ (d 7 = true → d 6 = true)) (by kernel_rfl) (by kernel_rfl) ?_ ?_ ?_ ?_
      · intro d d' h a' w' hh
        obtain rfl : d = d' := funext h
        exact hh
      · exact ⟨_, _, _, _, _, _, _, (by simp only [Act.put, List.setIfInBounds_toArray, List.set_cons_zero, List.set_cons_succ]; rfl), (Below.refl _ _).drew, (fun h => by cases h), (fun h => by cases h), (fun h => by cases h), (fun h => by cases h), (fun h => by cases h), (fun h => by cases h), (fun h => by cases h), (fun h => by cases h)⟩
      · refine ⟨?_, ?_, ?_, ?_, ?_, ?_, ?_, ?_, trivial⟩
        · intro d a2 w2 hd hm ⟨u31, u32, u33, u34, u35, u36, u9, e, HB, f0, f1, f2, f3, f4, f5, f6, t0⟩ K hK
          subst e
          simp only [Act.put, List.setIfInBounds_toArray, List.set_cons_zero, List.set_cons_succ]
          obtain ⟨⟨q0, q1⟩, q2, q3⟩ := HX.out w2 HB
          go_simp
          exact hK.out _ _ ⟨.agg #[.bool ga, .slice Aa na ca], u32, u33, u34, u35, u36, u9, (by simp only [Act.put, List.setIfInBounds_toArray, List.set_cons_zero, List.set_cons_succ]), HB, (fun _ => rfl), (fun h => f1 (by simpa using h)), (fun h => (f2 (by simpa using h))), (fun h => (f3 (by simpa using h))), (fun h => f4 (by simpa using h)), (fun h => (f5 (by simpa using h))), (fun h => by simpa using (f6 (by simpa using h))), (fun h => by simpa using t0 (by simpa using h))⟩
        · intro d a2 w2 hd hm ⟨u31, u32, u33, u34, u35, u36, u9, e, HB, f0, f1, f2, f3, f4, f5, f6, t0⟩ K hK
          subst e
          simp only [Act.put, List.setIfInBounds_toArray, List.set_cons_zero, List.set_cons_succ]
          go_simp
          exact hK.out _ _ ⟨u31, .int .i64 (dd : Int), u33, u34, u35, u36, u9, (by simp only [Act.put, List.setIfInBounds_toArray, List.set_cons_zero, List.set_cons_succ]), HB, (fun h => f0 (by simpa using h)), (fun _ => rfl), (fun h => (f2 (by simpa using h))), (fun h => (f3 (by simpa using h))), (fun h => f4 (by simpa using h)), (fun h => (f5 (by simpa using h))), (fun h => by simpa using (f6 (by simpa using h))), (fun h => by simpa using t0 (by simpa using h))⟩
        · intro d a2 w2 hd hm ⟨u31, u32, u33, u34, u35, u36, u9, e, HB, f0, f1, f2, f3, f4, f5, f6, t0⟩ K hK
          subst e
          simp only [Act.put, List.setIfInBounds_toArray, List.set_cons_zero, List.set_cons_succ]
          obtain rfl := f1 (hm ⟨1, .data⟩ (by simp) rfl)
          clear f1
          go_simp
          (with_reducible refine (rof_any (dd : Int) _ Hdl.1 Hdl.2).mono ?_)
          rintro e w3 ⟨gg, AA, nn, cc, rfl, hi, hb⟩
          have HB3 := HB.trans (hb.mono HB.size)
          go_wp2_with fail
          exact hK.out _ _ ⟨u31, .int .i64 (dd : Int), .agg #[.bool gg, .slice AA nn cc], u34, u35, u36, u9, (by simp only [Act.put, List.setIfInBounds_toArray, List.set_cons_zero, List.set_cons_succ]), HB3, (fun h => f0 (by simpa using h)), (fun _ => rfl), (fun _ => ⟨_, _, _, _, rfl, hi⟩), (fun h => (f3 (by simpa using h)).below hb), (fun h => f4 (by simpa using h)), (fun h => (f5 (by simpa using h)).below hb), (fun h => by simpa using (f6 (by simpa using h)).below hb), (fun h => by simpa using t0 (by simpa using h))⟩
        · intro d a2 w2 hd hm ⟨u31, u32, u33, u34, u35, u36, u9, e, HB, f0, f1, f2, f3, f4, f5, f6, t0⟩ K hK
          subst e
          simp only [Act.put, List.setIfInBounds_toArray, List.set_cons_zero, List.set_cons_succ]
          obtain rfl := f0 (hm ⟨0, .data⟩ (by simp) rfl)
          clear f0
          obtain ⟨G2, A2, N2, C2, rfl, I2⟩ := f2 (hm ⟨2, .data⟩ (by simp) rfl)
          go_simp
          (with_reducible refine (rmul_z ga G2 Aa A2 na ca N2 C2 _ (HI.out _ HB).1 I2 Za Zd).mono ?_)
          rintro e w3 ⟨gg, AA, nn, cc, rfl, hi, hb⟩
          have HB3 := HB.trans (hb.mono HB.size)
          go_wp2_with fail
          exact hK.out _ _ ⟨.agg #[.bool ga, .slice Aa na ca], u32, .agg #[.bool G2, .slice A2 N2 C2], .agg #[.bool gg, .slice AA nn cc], u35, u36, u9, (by simp only [Act.put, List.setIfInBounds_toArray, List.set_cons_zero, List.set_cons_succ]), HB3, (fun _ => rfl), (fun h => f1 (by simpa using h)), (fun h => (f2 (by simpa using h)).below hb), (fun _ => ⟨_, _, _, _, rfl, hi⟩), (fun h => f4 (by simpa using h)), (fun h => (f5 (by simpa using h)).below hb), (fun h => by simpa using (f6 (by simpa using h)).below hb), (fun h => by simpa using t0 (by simpa using h))⟩
        · intro d a2 w2 hd hm ⟨u31, u32, u33, u34, u35, u36, u9, e, HB, f0, f1, f2, f3, f4, f5, f6, t0⟩ K hK
          subst e
          simp only [Act.put, List.setIfInBounds_toArray, List.set_cons_zero, List.set_cons_succ]
          obtain ⟨⟨q0, q1⟩, q2, q3⟩ := HX.out w2 HB
          go_simp
          exact hK.out _ _ ⟨u31, u32, u33, u34, .agg #[.bool gm, .slice Am nm cm], u36, u9, (by simp only [Act.put, List.setIfInBounds_toArray, List.set_cons_zero, List.set_cons_succ]), HB, (fun h => f0 (by simpa using h)), (fun h => f1 (by simpa using h)), (fun h => (f2 (by simpa using h))), (fun h => (f3 (by simpa using h))), (fun _ => rfl), (fun h => (f5 (by simpa using h))), (fun h => by simpa using (f6 (by simpa using h))), (fun h => by simpa using t0 (by simpa using h))⟩
        · intro d a2 w2 hd hm ⟨u31, u32, u33, u34, u35, u36, u9, e, HB, f0, f1, f2, f3, f4, f5, f6, t0⟩ K hK
          subst e
          simp only [Act.put, List.setIfInBounds_toArray, List.set_cons_zero, List.set_cons_succ]
          obtain ⟨G3, A3, N3, C3, rfl, I3⟩ := f3 (hm ⟨3, .data⟩ (by simp) rfl)
          obtain rfl := f4 (hm ⟨4, .data⟩ (by simp) rfl)
          clear f4
          go_simp
          (with_reducible refine (rest_z G3 A3 N3 C3 gm Am nm cm _ I3 (HI.out _ HB).2 Zad Zm Hkk Hm0).mono ?_)
          rintro e w3 ⟨gg, AA, nn, cc, rfl, hi, hb⟩
          have HB3 := HB.trans (hb.mono HB.size)
          go_wp2_with fail
          exact hK.out _ _ ⟨u31, u32, u33, .agg #[.bool G3, .slice A3 N3 C3], .agg #[.bool gm, .slice Am nm cm], .agg #[.bool gg, .slice AA nn cc], u9, (by simp only [Act.put, List.setIfInBounds_toArray, List.set_cons_zero, List.set_cons_succ]), HB3, (fun h => f0 (by simpa using h)), (fun h => f1 (by simpa using h)), (fun h => (f2 (by simpa using h)).below hb), (fun h => (f3 (by simpa using h)).below hb), (fun _ => rfl), (fun _ => ⟨_, _, _, _, rfl, hi⟩), (fun h => by simpa using (f6 (by simpa using h)).below hb), (fun h => by simpa using t0 (by simpa using h))⟩
        · intro d a2 w2 hd hm ⟨u31, u32, u33, u34, u35, u36, u9, e, HB, f0, f1, f2, f3, f4, f5, f6, t0⟩ K hK
          subst e
          simp only [Act.put, List.setIfInBounds_toArray, List.set_cons_zero, List.set_cons_succ]
          have hb : Below w2.heap.size w2 (w2.alloc (.cells #[.bool false, .slice none 0 0] 28)) := (Below.refl _ _).alloc (Nat.le_refl _) _
          have HB3 := HB.trans (hb.mono HB.size)
          go_simp
          exact hK.out _ _ ⟨u31, u32, u33, u34, u35, u36, .pointer (some ⟨w2.heap.size, 0, none⟩), (by simp only [Act.put, List.setIfInBounds_toArray, List.set_cons_zero, List.set_cons_succ]), HB3, (fun h => f0 (by simpa using h)), (fun h => f1 (by simpa using h)), (fun h => (f2 (by simpa using h)).below hb), (fun h => (f3 (by simpa using h)).below hb), (fun h => f4 (by simpa using h)), (fun h => (f5 (by simpa using h)).below hb), (fun _ => by have hs : d 7 = false := (by cases hq : d 7 with | false => rfl | true => (have hz := t0 hq; rw [hd] at hz; cases hz)); simpa [hs] using OwnP.new HB.size (a * (dd : Int) % m)), (fun _ => by simp)⟩
        · intro d a2 w2 hd hm ⟨u31, u32, u33, u34, u35, u36, u9, e, HB, f0, f1, f2, f3, f4, f5, f6, t0⟩ K hK
          subst e
          simp only [Act.put, List.setIfInBounds_toArray, List.set_cons_zero, List.set_cons_succ]
          obtain ⟨gg, AA, nn, cc, rfl, hi⟩ := f5 (hm ⟨5, .data⟩ (by simp) rfl)
          obtain ⟨g, rfl, hg, b0, b1, hs, n0, n1, _⟩ := f6 (hm ⟨6, .data⟩ (by simp) rfl)
          obtain ⟨k0, k1, k2, k3, k4⟩ := id hs
          go_simp
          exact hK.out _ _ ⟨u31, u32, u33, u34, u35, .agg #[.bool gg, .slice AA nn cc], .pointer (some ⟨g, 0, none⟩), (by simp only [Act.put, List.setIfInBounds_toArray, List.set_cons_zero, List.set_cons_succ]), Below.set2 HB hg _ _, (fun h => f0 (by simpa using h)), (fun h => f1 (by simpa using h)), (fun h => (f2 (by simpa using h)).set2 hs n0 n1 _ _), (fun h => (f3 (by simpa using h)).set2 hs n0 n1 _ _), (fun h => f4 (by simpa using h)), (fun h => (f5 (by simpa using h)).set2 hs n0 n1 _ _), (fun _ => by simpa using OwnP.near hi hg hs n0 n1), (fun _ => by simpa using hm ⟨6, .data⟩ (by simp) rfl)⟩
      · intro d a2 w2 hall ⟨u31, u32, u33, u34, u35, u36, u9, e, HB, f0, f1, f2, f3, f4, f5, f6, t0⟩
        subst e
        simp only [Act.put, List.setIfInBounds_toArray, List.set_cons_zero, List.set_cons_succ]
        obtain rfl := f0 (hall _ (by decide))
        obtain rfl := f1 (hall _ (by decide))
        obtain rfl := f4 (hall _ (by decide))
        obtain ⟨g0, rfl, h0, b0⟩ := OwnP.intAtB (by have := f6 (hall _ (by decide)); rwa [hall 7 (by decide)] at this)
        obtain ⟨gn, An, nn, cn, Sn, In⟩ := h0
        have D9 := D8.trans (HB.mono D8.size)
        clear HX HI
        clear HB
        obtain ⟨W9, rfl⟩ : ∃ x : World, x = w2 := ⟨_, rfl⟩
        obtain ⟨u, hu⟩ : ∃ u, a * (dd : Int) % m = u := ⟨_, rfl⟩
        rw [hu] at In Zu
        have hu0 : 0 ≤ u ∧ u < m := by rw [← hu]; exact ⟨Int.emod_nonneg _ Hm0, Int.emod_lt_of_pos _ (by omega)⟩
        have hgw : wr.heap.size ≤ g0 := Nat.le_trans D8.size b0
        obtain ⟨t2, ht2⟩ : ∃ t, cmpN u (r : Int) = t := ⟨_, rfl⟩
        have HT2 := Lib.hid ht2
        have Sr9 := Sr.after D9
        have ⟨x0, x1, _, _, _⟩ := Sn
        have ⟨y0, y1, _, _, _⟩ := Sr9
        go_wp2_with fail
        (with_reducible refine (rcmp_z gn gr An Ar nn cn nr cr _ t2 In (ir.below D9) Zu Zr HT2.out).mono ?_)
        rintro e w10 ⟨rfl, b10⟩
        replace Sn := Sn.after b10
        replace In := In.below b10
        replace D9 := D9.trans (b10.mono D9.size)
        clear b10 x0 x1 y0 y1 Sr9
        rcases Int.lt_or_le (r : Int) u with hru | hru
        · have hs2 := cmpN_gt0 ht2 hru
          clear ht2
          have ⟨x0, x1, k0, k1, _⟩ := Sn
          have Pm10 := Pm.after D9
          have ⟨y0, y1, _, _, _⟩ := Pm10
          go_wp2_with fail
          (with_reducible refine (rsub_z gn gm An Am nn cn nm cm _ In (Im.below D9) Zu Zm).mono ?_)
          rintro e w11 ⟨gs, As, ns, cs, rfl, is, bs⟩
          replace Sn := Sn.after bs
          replace D9 := D9.trans (bs.mono D9.size)
          clear x0 x1 k0 k1 y0 y1 Pm10 In
          have ⟨x0, x1, k0, k1, _⟩ := Sn
          have ZN : Sz 1 (u - m) := Sz.of (by omega) (by decide)
          have hN : nearR (a * (dd : Int) % m) (r : Int) m = u - m := by rw [hu]; exact nearR_gt hru
          have In := is.set2 Sn rfl rfl (.bool gs) (.slice As ns cs)
          have D11 := Below.set2 D9 hgw (.bool gs) (.slice As ns cs)
          replace Sn := Sn.set2 (.bool gs) (.slice As ns cs)
          go_upto_region 11 with (fail)
          clear x0 x1 k0 k1 is bs
          generalize (w11.setCell ⟨g0, 0, none⟩ (.bool gs)).setCell ⟨g0, 1, none⟩ (.slice As ns cs) = W11 at *
          obtain ⟨nv, hnv⟩ : ∃ nv, u - m = nv := ⟨_, rfl⟩
          rw [hnv] at In ZN hN
          obtain ⟨t3, ht3⟩ : ∃ t, cmpN ((nv.natAbs : Nat) : Int) (r : Int) = t := ⟨_, rfl⟩
          have HT3 := Lib.hid ht3
          have HS : Hid (∀ V, Below W11.heap.size W11 V → ((V.cell? ⟨g0, 0, none⟩ = some (.bool gs) ∧ V.cell? ⟨g0, 1, none⟩ = some (.slice As ns cs))) ∧ ((V.cell? ⟨g7, 0, none⟩ = some (.bool gr) ∧ V.cell? ⟨g7, 1, none⟩ = some (.slice Ar nr cr))) ∧ ((V.cell? ⟨w.heap.size + 1, 0, none⟩ = some (.bool gm) ∧ V.cell? ⟨w.heap.size + 1, 1, none⟩ = some (.slice Am nm cm))) ∧ (V.cell? ⟨g6, 0, none⟩ = some (.bool go) ∧ V.cell? ⟨g6, 1, none⟩ = some (.slice Ao no co))) := fun V hV => by
            have hB := D11.trans (hV.mono D11.size)
            exact ⟨⟨(Sn.after hV).1, (Sn.after hV).2.1⟩, ⟨(Sr.after hB).1, (Sr.after hB).2.1⟩, ⟨(Pm.after hB).1, (Pm.after hB).2.1⟩, (So.after hB).1, (So.after hB).2.1⟩
          have HI : Hid (∀ V, Below W11.heap.size W11 V → IsInt V gr Ar nr cr (r : Int) ∧ IsInt V gm Am nm cm m ∧ IsInt V go Ao no co 1) := fun V hV => by
            have hB := D11.trans (hV.mono D11.size)
            exact ⟨ir.below hB, Im.below hB, io.below hB⟩
          have ZA := ZN.abs
          rcases Int.lt_or_le (r : Int) ((nv.natAbs : Nat) : Int) with hna | hna
          · have hs3 := cmp_le0 ht3 hna
            clear ht3
            go_upto_region 11 with (fail)
            have Dq0 : Below W11.heap.size W11 W11.drew := (Below.refl _ _).drew
            refine wp_region_seq (.pre [(0, true), (2, true), (1, false), (3, false), (4, true), (5, true), (6, true), (7, true), (8, true), (9, true), (10, true), (11, true), (12, true)] .done) (fun W => ((W.cell? ⟨g0, 0, none⟩ = some (.bool gs) ∧ W.cell? ⟨g0, 1, none⟩ = some (.slice As ns cs))) ∧ ((W.cell? ⟨g7, 0, none⟩ = some (.bool gr) ∧ W.cell? ⟨g7, 1, none⟩ = some (.slice Ar nr cr))) ∧ ((W.cell? ⟨w.heap.size + 1, 0, none⟩ = some (.bool gm) ∧ W.cell? ⟨w.heap.size + 1, 1, none⟩ = some (.slice Am nm cm))) ∧ (W.cell? ⟨g6, 0, none⟩ = some (.bool go) ∧ W.cell? ⟨g6, 1, none⟩ = some (.slice Ao no co))) (by kernel_rfl) (by kernel_rfl) ?_ (by kernel_rfl) (HS.out _ Dq0) ?_
            · refine chk_pre _ _ _ (by as_aux_lemma => kernel_rfl) ?_
              exact (by as_aux_lemma => kernel_rfl)
            refine seq_take _ ?_ rfl (Or.inl ⟨by rfl, ?_⟩) ?_
            rotate_left
            · (intro w hSw; (try dsimp only at hSw); go_simp; (try with_reducible rfl))
            try simp only [Act.put, List.setIfInBounds_toArray, List.set_cons_zero, List.set_cons_succ]
            refine seq_take _ ?_ rfl (Or.inl ⟨by rfl, ?_⟩) ?_
            rotate_left
            · (intro w hSw; (try dsimp only at hSw); go_simp; (try with_reducible rfl))
            try simp only [Act.put, List.setIfInBounds_toArray, List.set_cons_zero, List.set_cons_succ]
            refine seq_one _ rfl fun K hK => ?_
            go_simp
            (with_reducible refine (rabs_z gs As ns cs _ (In.below Dq0) ZN).mono ?_)
            rintro e vq1 ⟨gq1, Aq1, nq1, cq1, rfl, iq1, bq1⟩
            have Dq1 : Below W11.heap.size W11 vq1 := Below.trans Dq0 (bq1.mono (Below.size Dq0))
            go_wp2_with fail
            refine hK.out _ _ (HS.out _ Dq1) (fun hHeld => ?_)
            clear hK K hHeld
            try simp only [Act.put, List.setIfInBounds_toArray, List.set_cons_zero, List.set_cons_succ]
            refine seq_one _ rfl fun K hK => ?_
            go_simp
            (with_reducible refine (rcmp_z gq1 gr Aq1 Ar nq1 cq1 nr cr _ t3 iq1 (HI.out _ Dq1).1 ZA Zr HT3.out).mono ?_)
            rintro e vq2 ⟨rfl, bq2⟩
            have Dq2 : Below W11.heap.size W11 vq2 := Below.trans Dq1 (bq2.mono (Below.size Dq1))
            go_wp2_with fail
            refine hK.out _ _ (HS.out _ Dq2) (fun hHeld => ?_)
            clear hK K hHeld
            try simp only [Act.put, List.setIfInBounds_toArray, List.set_cons_zero, List.set_cons_succ]
            refine seq_take _ ?_ rfl (Or.inl ⟨by rfl, ?_⟩) ?_
            rotate_left
            · (intro w hSw; (try dsimp only at hSw); go_simp; (try with_reducible rfl))
            try simp only [Act.put, List.setIfInBounds_toArray, List.set_cons_zero, List.set_cons_succ]
            refine seq_take _ ?_ rfl (Or.inl ⟨by rfl, ?_⟩) ?_
            rotate_left
            · (intro w hSw; (try dsimp only at hSw); go_simp; (try with_reducible rfl))
            try simp only [Act.put, List.setIfInBounds_toArray, List.set_cons_zero, List.set_cons_succ]
            refine seq_take _ _ rfl (Or.inr ⟨by rfl, rfl⟩) ?_
            try simp only [Act.put, List.setIfInBounds_toArray, List.set_cons_zero, List.set_cons_succ]
            refine seq_take _ _ rfl (Or.inr ⟨by rfl, rfl⟩) ?_
            try simp only [Act.put, List.setIfInBounds_toArray, List.set_cons_zero, List.set_cons_succ]
            refine seq_take _ _ rfl (Or.inr ⟨by rfl, rfl⟩) ?_
            try simp only [Act.put, List.setIfInBounds_toArray, List.set_cons_zero, List.set_cons_succ]
            refine seq_take _ _ rfl (Or.inr ⟨by rfl, rfl⟩) ?_
            try simp only [Act.put, List.setIfInBounds_toArray, List.set_cons_zero, List.set_cons_succ]
            refine seq_take _ _ rfl (Or.inr ⟨by rfl, rfl⟩) ?_
            try simp only [Act.put, List.setIfInBounds_toArray, List.set_cons_zero, List.set_cons_succ]
            refine seq_take _ _ rfl (Or.inr ⟨by rfl, rfl⟩) ?_
            try simp only [Act.put, List.setIfInBounds_toArray, List.set_cons_zero, List.set_cons_succ]
            refine seq_take _ ?_ rfl (Or.inl ⟨by rfl, ?_⟩) ?_
            rotate_left
            · (intro w hSw; (try dsimp only at hSw); go_simp; (try with_reducible rfl))
            try simp only [Act.put, List.setIfInBounds_toArray, List.set_cons_zero, List.set_cons_succ]
            refine NoPanic.normal ?_
            go_wp2_with fail
            go_roundw
            case rel => exact ⟨dd + 1, by go_num, by omega, by omega, D.trans ((D11.trans (Dq2.mono D11.size)).mono D.size), not_good HBL.out HN (by rw [hN]; exact .inl hna)⟩
            case measure => simp [intOf]; omega
          · have hs3 := cmp_le1 ht3 hna
            clear ht3
            obtain ⟨s, hs⟩ : ∃ s, decide (((Nat.gcd (dd : Int).natAbs m.natAbs : Nat) : Int) = 1) = s := ⟨_, rfl⟩
            have HG := Lib.hid hs
            go_upto_region 11 with (fail)
            have Dq0 : Below W11.heap.size W11 W11.drew := (Below.refl _ _).drew
            refine wp_region_seq (.pre [(0, true), (2, true), (1, false), (3, false), (4, true), (5, true), (6, true), (8, true), (10, true), (7, false), (9, false), (11, false), (12, true)] .done) (fun W => ((W.cell? ⟨g0, 0, none⟩ = some (.bool gs) ∧ W.cell? ⟨g0, 1, none⟩ = some (.slice As ns cs))) ∧ ((W.cell? ⟨g7, 0, none⟩ = some (.bool gr) ∧ W.cell? ⟨g7, 1, none⟩ = some (.slice Ar nr cr))) ∧ ((W.cell? ⟨w.heap.size + 1, 0, none⟩ = some (.bool gm) ∧ W.cell? ⟨w.heap.size + 1, 1, none⟩ = some (.slice Am nm cm))) ∧ (W.cell? ⟨g6, 0, none⟩ = some (.bool go) ∧ W.cell? ⟨g6, 1, none⟩ = some (.slice Ao no co))) (by kernel_rfl) (by kernel_rfl) ?_ (by kernel_rfl) (HS.out _ Dq0) ?_
            · refine chk_pre _ _ _ (by as_aux_lemma => kernel_rfl) ?_
              exact (by as_aux_lemma => kernel_rfl)
            refine seq_take _ ?_ rfl (Or.inl ⟨by rfl, ?_⟩) ?_
            rotate_left
            · (intro w hSw; (try dsimp only at hSw); go_simp; (try with_reducible rfl))
            try simp only [Act.put, List.setIfInBounds_toArray, List.set_cons_zero, List.set_cons_succ]
            refine seq_take _ ?_ rfl (Or.inl ⟨by rfl, ?_⟩) ?_
            rotate_left
            · (intro w hSw; (try dsimp only at hSw); go_simp; (try with_reducible rfl))
            try simp only [Act.put, List.setIfInBounds_toArray, List.set_cons_zero, List.set_cons_succ]
            refine seq_one _ rfl fun K hK => ?_
            go_simp
            (with_reducible refine (rabs_z gs As ns cs _ (In.below Dq0) ZN).mono ?_)
            rintro e vq1 ⟨gq1, Aq1, nq1, cq1, rfl, iq1, bq1⟩
            have Dq1 : Below W11.heap.size W11 vq1 := Below.trans Dq0 (bq1.mono (Below.size Dq0))
            go_wp2_with fail
            refine hK.out _ _ (HS.out _ Dq1) (fun hHeld => ?_)
            clear hK K hHeld
            try simp only [Act.put, List.setIfInBounds_toArray, List.set_cons_zero, List.set_cons_succ]
            refine seq_one _ rfl fun K hK => ?_
            go_simp
            (with_reducible refine (rcmp_z gq1 gr Aq1 Ar nq1 cq1 nr cr _ t3 iq1 (HI.out _ Dq1).1 ZA Zr HT3.out).mono ?_)
            rintro e vq2 ⟨rfl, bq2⟩
            have Dq2 : Below W11.heap.size W11 vq2 := Below.trans Dq1 (bq2.mono (Below.size Dq1))
            go_wp2_with fail
            refine hK.out _ _ (HS.out _ Dq2) (fun hHeld => ?_)
            clear hK K hHeld
            try simp only [Act.put, List.setIfInBounds_toArray, List.set_cons_zero, List.set_cons_succ]
            refine seq_take _ ?_ rfl (Or.inl ⟨by rfl, ?_⟩) ?_
            rotate_left
            · (intro w hSw; (try dsimp only at hSw); go_simp; (try with_reducible rfl))
            try simp only [Act.put, List.setIfInBounds_toArray, List.set_cons_zero, List.set_cons_succ]
            refine seq_take _ ?_ rfl (Or.inl ⟨by rfl, ?_⟩) ?_
            rotate_left
            · (intro w hSw; (try dsimp only at hSw); go_simp; (try with_reducible rfl))
            try simp only [Act.put, List.setIfInBounds_toArray, List.set_cons_zero, List.set_cons_succ]
            refine seq_take _ ?_ rfl (Or.inl ⟨by rfl, ?_⟩) ?_
            rotate_left
            · (intro w hSw; (try dsimp only at hSw); go_simp; (try with_reducible rfl))
            try simp only [Act.put, List.setIfInBounds_toArray, List.set_cons_zero, List.set_cons_succ]
            refine seq_take _ ?_ rfl (Or.inl ⟨by rfl, ?_⟩) ?_
            rotate_left
            · (intro w hSw; (try dsimp only at hSw); go_simp; (try with_reducible rfl))
            try simp only [Act.put, List.setIfInBounds_toArray, List.set_cons_zero, List.set_cons_succ]
            refine seq_take _ ?_ rfl (Or.inl ⟨by rfl, ?_⟩) ?_
            rotate_left
            · (intro w hSw; (try dsimp only at hSw); go_simp; (try with_reducible rfl))
            try simp only [Act.put, List.setIfInBounds_toArray, List.set_cons_zero, List.set_cons_succ]
            refine seq_one _ rfl fun K hK => ?_
            go_simp
            (with_reducible refine (rof_any (dd : Int) _ Hdl.1 Hdl.2).mono ?_)
            rintro e vq3 ⟨gq3, Aq3, nq3, cq3, rfl, iq3, bq3⟩
            have Dq3 : Below W11.heap.size W11 vq3 := Below.trans Dq2 (bq3.mono (Below.size Dq2))
            go_wp2_with fail
            refine hK.out _ _ (HS.out _ Dq3) (fun hHeld => ?_)
            clear hK K hHeld
            try simp only [Act.put, List.setIfInBounds_toArray, List.set_cons_zero, List.set_cons_succ]
            refine seq_one _ rfl fun K hK => ?_
            go_simp
            (with_reducible refine (rgcd_z gq3 gm Aq3 Am nq3 cq3 nm cm _ iq3 (HI.out _ Dq3).2.1 Zd Zm (by decide)).mono ?_)
            rintro e vq4 ⟨gq4, Aq4, nq4, cq4, rfl, iq4, bq4⟩
            have Dq4 : Below W11.heap.size W11 vq4 := Below.trans Dq3 (bq4.mono (Below.size Dq3))
            go_wp2_with fail
            refine hK.out _ _ (HS.out _ Dq4) (fun hHeld => ?_)
            clear hK K hHeld
            try simp only [Act.put, List.setIfInBounds_toArray, List.set_cons_zero, List.set_cons_succ]
            refine seq_one _ rfl fun K hK => ?_
            go_simp
            (with_reducible refine (same_v gq4 go Aq4 Ao nq4 cq4 no co _ s iq4 (HI.out _ Dq4).2.2 HG.out.symm).mono ?_)
            rintro e vq5 ⟨rfl, bq5⟩
            have Dq5 : Below W11.heap.size W11 vq5 := Below.trans Dq4 (bq5.mono (Below.size Dq4))
            go_wp2_with fail
            refine hK.out _ _ (HS.out _ Dq5) (fun hHeld => ?_)
            clear hK K hHeld
            try simp only [Act.put, List.setIfInBounds_toArray, List.set_cons_zero, List.set_cons_succ]
            refine seq_take _ ?_ rfl (Or.inl ⟨by rfl, ?_⟩) ?_
            rotate_left
            · (intro w hSw; (try dsimp only at hSw); go_simp; (try with_reducible rfl))
            try simp only [Act.put, List.setIfInBounds_toArray, List.set_cons_zero, List.set_cons_succ]
            refine NoPanic.normal ?_
            by_cases hgc : Nat.gcd (dd : Int).natAbs m.natAbs = 1
            case' neg =>
              obtain rfl : s = false := by rw [← HG.out]; exact decide_eq_false (by omega)
              go_wp2_with fail
              go_roundw
              case rel => exact ⟨dd + 1, by go_num, by omega, by omega, D.trans ((D11.trans (Dq5.mono D11.size)).mono D.size), not_good HBL.out HN (.inr hgc)⟩
              case measure => simp [intOf]; omega
            obtain rfl : s = true := by rw [← HG.out]; exact decide_eq_true (by omega)
            have HGd : Hid (Good a m (r : Int) (Rat.divInt nv dd).num ((Rat.divInt nv dd).den : Int)) := by
              have := good_of (a := a) (m := m) (r := (r : Int)) (d := (dd : Int)) (by omega) (by omega) hgc (by rw [hN]; exact hna)
              rw [hN] at this
              exact this
            have D12 := D11.trans (Dq5.mono D11.size)
            have S12 := Sn.after Dq5
            have I12 := In.below Dq5
            have Hd0 : (dd : Int) ≠ 0 := by omega
            have R12 := R.after D12
            have B12 := B.trans (D12.mono B.size)
            clear HS HI HG hs
            generalize vq5 = W12 at *
            go_wp2_with fail
            have HX : Hid (∀ V, Below W12.heap.size W12 V → (V.cell? ⟨g0, 0, none⟩ = some (.bool gs) ∧ V.cell? ⟨g0, 1, none⟩ = some (.slice As ns cs))) := fun V hV => ⟨(S12.after hV).1, (S12.after hV).2.1⟩
            have HI : Hid (∀ V, Below W12.heap.size W12 V → IsInt V gs As ns cs nv) := fun V hV => I12.below hV
            refine wp_region_ev (fun d a0 a' w' => ∃ u58 u59 u60 u61 u57 u62 u63 u10 u11 : Value, a' = (((((((((a0.put (some 58) u58).put (some 59) u59).put (some 60) u60).put (some 61) u61).put (some 57) u57).put (some 62) u62).put (some 63) u63).put (some 10) u10).put (some 11) u11) ∧ Below W12.heap.size W12 w' ∧ (d 0 = true → u58 = .agg #[.bool gs, .slice As ns cs]) ∧ (d 1 = true → u59 = .int .i64 (dd : Int)) ∧ (d 2 = true → IntV w' u60 ((dd : Int))) ∧ (d 3 = true → TupQ w' u61 (Rat.divInt nv (dd : Int)) (0)) ∧ (d 4 = true → TupQ w' u57 (Rat.divInt nv (dd : Int)) (0)) ∧ (d 5 = true → RatV w' u62 (Rat.divInt nv (dd : Int))) ∧ (d 6 = true → u63 = .int .i64 (0)) ∧ (d 9 = true → u11 = .int .i64 (0)) ∧ (d 7 = true → OwnQ W12.heap.size w' u10 (d 8) (Rat.divInt nv (dd : Int))) ∧ (d 8 = true → d 7 = true)) (by kernel_rfl) (by kernel_rfl) ?_ ?_ ?_ ?_
            · intro d d' h a' w' hh
              obtain rfl : d = d' := funext h
              exact hh
            · exact ⟨_, _, _, _, _, _, _, _, _, (by simp only [Act.put, List.setIfInBounds_toArray, List.set_cons_zero, List.set_cons_succ]; rfl), (Below.refl _ _).drew, (fun h => by cases h), (fun h => by cases h), (fun h => by cases h), (fun h => by cases h), (fun h => by cases h), (fun h => by cases h), (fun h => by cases h), (fun h => by cases h), (fun h => by cases h), (fun h => by cases h)⟩
            · refine ⟨?_, ?_, ?_, ?_, ?_, ?_, ?_, ?_, ?_, ?_, trivial⟩
              · intro d a2 w2 hd hm ⟨u58, u59, u60, u61, u57, u62, u63, u10, u11, e, HB, f0, f1, f2, f3, f4, f5, f6, f9, f7, t0⟩ K hK
                subst e
                simp only [Act.put, List.setIfInBounds_toArray, List.set_cons_zero, List.set_cons_succ]
                obtain ⟨q0, q1⟩ := HX.out w2 HB
                go_simp
                exact hK.out _ _ ⟨.agg #[.bool gs, .slice As ns cs], u59, u60, u61, u57, u62, u63, u10, u11, (by simp only [Act.put, List.setIfInBounds_toArray, List.set_cons_zero, List.set_cons_succ]), HB, (fun _ => rfl), (fun h => f1 (by simpa using h)), (fun h => (f2 (by simpa using h))), (fun h => (f3 (by simpa using h))), (fun h => (f4 (by simpa using h))), (fun h => (f5 (by simpa using h))), (fun h => f6 (by simpa using h)), (fun h => f9 (by simpa using h)), (fun h => by simpa using (f7 (by simpa using h))), (fun h => by simpa using t0 (by simpa using h))⟩
              · intro d a2 w2 hd hm ⟨u58, u59, u60, u61, u57, u62, u63, u10, u11, e, HB, f0, f1, f2, f3, f4, f5, f6, f9, f7, t0⟩ K hK
                subst e
                simp only [Act.put, List.setIfInBounds_toArray, List.set_cons_zero, List.set_cons_succ]
                go_simp
                exact hK.out _ _ ⟨u58, .int .i64 (dd : Int), u60, u61, u57, u62, u63, u10, u11, (by simp only [Act.put, List.setIfInBounds_toArray, List.set_cons_zero, List.set_cons_succ]), HB, (fun h => f0 (by simpa using h)), (fun _ => rfl), (fun h => (f2 (by simpa using h))), (fun h => (f3 (by simpa using h))), (fun h => (f4 (by simpa using h))), (fun h => (f5 (by simpa using h))), (fun h => f6 (by simpa using h)), (fun h => f9 (by simpa using h)), (fun h => by simpa using (f7 (by simpa using h))), (fun h => by simpa using t0 (by simpa using h))⟩
              · intro d a2 w2 hd hm ⟨u58, u59, u60, u61, u57, u62, u63, u10, u11, e, HB, f0, f1, f2, f3, f4, f5, f6, f9, f7, t0⟩ K hK
                subst e
                simp only [Act.put, List.setIfInBounds_toArray, List.set_cons_zero, List.set_cons_succ]
                obtain rfl := f1 (hm ⟨1, .data⟩ (by simp) rfl)
                clear f1
                go_simp
                (with_reducible refine (rof_any (dd : Int) _ Hdl.1 Hdl.2).mono ?_)
                rintro e w3 ⟨gg, AA, nn, cc, rfl, hi, hb⟩
                have HB3 := HB.trans (hb.mono HB.size)
                go_wp2_with fail
                exact hK.out _ _ ⟨u58, .int .i64 (dd : Int), .agg #[.bool gg, .slice AA nn cc], u61, u57, u62, u63, u10, u11, (by simp only [Act.put, List.setIfInBounds_toArray, List.set_cons_zero, List.set_cons_succ]), HB3, (fun h => f0 (by simpa using h)), (fun _ => rfl), (fun _ => ⟨_, _, _, _, rfl, hi⟩), (fun h => (f3 (by simpa using h)).below hb), (fun h => (f4 (by simpa using h)).below hb), (fun h => (f5 (by simpa using h)).below hb), (fun h => f6 (by simpa using h)), (fun h => f9 (by simpa using h)), (fun h => by simpa using (f7 (by simpa using h)).below hb), (fun h => by simpa using t0 (by simpa using h))⟩
              · intro d a2 w2 hd hm ⟨u58, u59, u60, u61, u57, u62, u63, u10, u11, e, HB, f0, f1, f2, f3, f4, f5, f6, f9, f7, t0⟩ K hK
                subst e
                simp only [Act.put, List.setIfInBounds_toArray, List.set_cons_zero, List.set_cons_succ]
                obtain rfl := f0 (hm ⟨0, .data⟩ (by simp) rfl)
                clear f0
                obtain ⟨G2, A2, N2, C2, rfl, I2⟩ := f2 (hm ⟨2, .data⟩ (by simp) rfl)
                go_simp
                (with_reducible refine (rqof_z gs As ns cs G2 A2 N2 C2 _ (HI.out _ HB) I2 ZN Zd (by decide) Hd0).mono ?_)
                rintro e w3 ⟨g1, A1', n1', c1', g2, A2', n2', c2', rfl, hi, hb⟩
                have HB3 := HB.trans (hb.mono HB.size)
                go_wp2_with fail
                exact hK.out _ _ ⟨.agg #[.bool gs, .slice As ns cs], u59, .agg #[.bool G2, .slice A2 N2 C2], .tuple #[.agg #[.bool g1, .slice A1' n1' c1', .bool g2, .slice A2' n2' c2'], .int .i64 (0)], u57, u62, u63, u10, u11, (by simp only [Act.put, List.setIfInBounds_toArray, List.set_cons_zero, List.set_cons_succ]), HB3, (fun _ => rfl), (fun h => f1 (by simpa using h)), (fun h => (f2 (by simpa using h)).below hb), (fun _ => ⟨_, rfl, ⟨_, _, _, _, _, _, _, _, rfl, hi⟩⟩), (fun h => (f4 (by simpa using h)).below hb), (fun h => (f5 (by simpa using h)).below hb), (fun h => f6 (by simpa using h)), (fun h => f9 (by simpa using h)), (fun h => by simpa using (f7 (by simpa using h)).below hb), (fun h => by simpa using t0 (by simpa using h))⟩
              · intro d a2 w2 hd hm ⟨u58, u59, u60, u61, u57, u62, u63, u10, u11, e, HB, f0, f1, f2, f3, f4, f5, f6, f9, f7, t0⟩ K hK
                subst e
                simp only [Act.put, List.setIfInBounds_toArray, List.set_cons_zero, List.set_cons_succ]
                obtain ⟨V3, rfl, I3⟩ := f3 (hm ⟨3, .data⟩ (by simp) rfl)
                go_simp
                exact hK.out _ _ ⟨u58, u59, u60, .tuple #[V3, .int .i64 (0)], .tuple #[V3, .int .i64 (0)], u62, u63, u10, u11, (by simp only [Act.put, List.setIfInBounds_toArray, List.set_cons_zero, List.set_cons_succ]), HB, (fun h => f0 (by simpa using h)), (fun h => f1 (by simpa using h)), (fun h => (f2 (by simpa using h))), (fun h => (f3 (by simpa using h))), (fun _ => ⟨V3, rfl, I3⟩), (fun h => (f5 (by simpa using h))), (fun h => f6 (by simpa using h)), (fun h => f9 (by simpa using h)), (fun h => by simpa using (f7 (by simpa using h))), (fun h => by simpa using t0 (by simpa using h))⟩
              · intro d a2 w2 hd hm ⟨u58, u59, u60, u61, u57, u62, u63, u10, u11, e, HB, f0, f1, f2, f3, f4, f5, f6, f9, f7, t0⟩ K hK
                subst e
                simp only [Act.put, List.setIfInBounds_toArray, List.set_cons_zero, List.set_cons_succ]
                obtain ⟨V4, rfl, I4⟩ := f4 (hm ⟨4, .data⟩ (by simp) rfl)
                go_simp
                exact hK.out _ _ ⟨u58, u59, u60, u61, .tuple #[V4, .int .i64 (0)], V4, u63, u10, u11, (by simp only [Act.put, List.setIfInBounds_toArray, List.set_cons_zero, List.set_cons_succ]), HB, (fun h => f0 (by simpa using h)), (fun h => f1 (by simpa using h)), (fun h => (f2 (by simpa using h))), (fun h => (f3 (by simpa using h))), (fun h => (f4 (by simpa using h))), (fun _ => I4), (fun h => f6 (by simpa using h)), (fun h => f9 (by simpa using h)), (fun h => by simpa using (f7 (by simpa using h))), (fun h => by simpa using t0 (by simpa using h))⟩
              · intro d a2 w2 hd hm ⟨u58, u59, u60, u61, u57, u62, u63, u10, u11, e, HB, f0, f1, f2, f3, f4, f5, f6, f9, f7, t0⟩ K hK
                subst e
                simp only [Act.put, List.setIfInBounds_toArray, List.set_cons_zero, List.set_cons_succ]
                obtain ⟨V4, rfl, I4⟩ := f4 (hm ⟨4, .data⟩ (by simp) rfl)
                go_simp
                exact hK.out _ _ ⟨u58, u59, u60, u61, .tuple #[V4, .int .i64 (0)], u62, .int .i64 (0), u10, u11, (by simp only [Act.put, List.setIfInBounds_toArray, List.set_cons_zero, List.set_cons_succ]), HB, (fun h => f0 (by simpa using h)), (fun h => f1 (by simpa using h)), (fun h => (f2 (by simpa using h))), (fun h => (f3 (by simpa using h))), (fun h => (f4 (by simpa using h))), (fun h => (f5 (by simpa using h))), (fun _ => rfl), (fun h => f9 (by simpa using h)), (fun h => by simpa using (f7 (by simpa using h))), (fun h => by simpa using t0 (by simpa using h))⟩
              · intro d a2 w2 hd hm ⟨u58, u59, u60, u61, u57, u62, u63, u10, u11, e, HB, f0, f1, f2, f3, f4, f5, f6, f9, f7, t0⟩ K hK
                subst e
                simp only [Act.put, List.setIfInBounds_toArray, List.set_cons_zero, List.set_cons_succ]
                have hb : Below w2.heap.size w2 (w2.alloc (.cells #[.bool false, .slice none 0 0, .bool false, .slice none 0 0] 57)) := (Below.refl _ _).alloc (Nat.le_refl _) _
                have HB3 := HB.trans (hb.mono HB.size)
                go_simp
                exact hK.out _ _ ⟨u58, u59, u60, u61, u57, u62, u63, .pointer (some ⟨w2.heap.size, 0, none⟩), u11, (by simp only [Act.put, List.setIfInBounds_toArray, List.set_cons_zero, List.set_cons_succ]), HB3, (fun h => f0 (by simpa using h)), (fun h => f1 (by simpa using h)), (fun h => (f2 (by simpa using h)).below hb), (fun h => (f3 (by simpa using h)).below hb), (fun h => (f4 (by simpa using h)).below hb), (fun h => (f5 (by simpa using h)).below hb), (fun h => f6 (by simpa using h)), (fun h => f9 (by simpa using h)), (fun _ => by have hs : d 8 = false := (by cases hq : d 8 with | false => rfl | true => (have hz := t0 hq; rw [hd] at hz; cases hz)); simpa [hs] using OwnQ.new HB.size (Rat.divInt nv (dd : Int))), (fun _ => by simp)⟩
              · intro d a2 w2 hd hm ⟨u58, u59, u60, u61, u57, u62, u63, u10, u11, e, HB, f0, f1, f2, f3, f4, f5, f6, f9, f7, t0⟩ K hK
                subst e
                simp only [Act.put, List.setIfInBounds_toArray, List.set_cons_zero, List.set_cons_succ]
                obtain ⟨gg, AA, nn, cc, gg', AA', nn', cc', rfl, hi⟩ := f5 (hm ⟨5, .data⟩ (by simp) rfl)
                obtain ⟨g, rfl, hg, b0, b1, b2, b3, hs, n0, n1, n2, n3, _⟩ := f7 (hm ⟨7, .data⟩ (by simp) rfl)
                obtain ⟨k0, k1, k2, k3, k4, k5, k6, k7, k8⟩ := id hs
                go_simp
                exact hK.out _ _ ⟨u58, u59, u60, u61, u57, .agg #[.bool gg, .slice AA nn cc, .bool gg', .slice AA' nn' cc'], u63, .pointer (some ⟨g, 0, none⟩), u11, (by simp only [Act.put, List.setIfInBounds_toArray, List.set_cons_zero, List.set_cons_succ]), Below.set4 HB hg _ _ _ _, (fun h => f0 (by simpa using h)), (fun h => f1 (by simpa using h)), (fun h => (f2 (by simpa using h)).set4 hs n0 n1 n2 n3 _ _ _ _), (fun h => (f3 (by simpa using h)).set4 hs n0 n1 n2 n3 _ _ _ _), (fun h => (f4 (by simpa using h)).set4 hs n0 n1 n2 n3 _ _ _ _), (fun h => (f5 (by simpa using h)).set4 hs n0 n1 n2 n3 _ _ _ _), (fun h => f6 (by simpa using h)), (fun h => f9 (by simpa using h)), (fun _ => by simpa using OwnQ.near hi hg hs n0 n1 n2 n3), (fun _ => by simpa using hm ⟨7, .data⟩ (by simp) rfl)⟩
              · intro d a2 w2 hd hm ⟨u58, u59, u60, u61, u57, u62, u63, u10, u11, e, HB, f0, f1, f2, f3, f4, f5, f6, f9, f7, t0⟩ K hK
                subst e
                simp only [Act.put, List.setIfInBounds_toArray, List.set_cons_zero, List.set_cons_succ]
                obtain rfl := f6 (hm ⟨6, .data⟩ (by simp) rfl)
                clear f6
                go_simp
                exact hK.out _ _ ⟨u58, u59, u60, u61, u57, u62, .int .i64 (0), u10, .int .i64 (0), (by simp only [Act.put, List.setIfInBounds_toArray, List.set_cons_zero, List.set_cons_succ]), HB, (fun h => f0 (by simpa using h)), (fun h => f1 (by simpa using h)), (fun h => (f2 (by simpa using h))), (fun h => (f3 (by simpa using h))), (fun h => (f4 (by simpa using h))), (fun h => (f5 (by simpa using h))), (fun _ => rfl), (fun _ => rfl), (fun h => by simpa using (f7 (by simpa using h))), (fun h => by simpa using t0 (by simpa using h))⟩
            · intro d a2 w2 hall ⟨u58, u59, u60, u61, u57, u62, u63, u10, u11, e, HB, f0, f1, f2, f3, f4, f5, f6, f9, f7, t0⟩
              subst e
              simp only [Act.put, List.setIfInBounds_toArray, List.set_cons_zero, List.set_cons_succ]
              obtain rfl := f0 (hall _ (by decide))
              obtain rfl := f1 (hall _ (by decide))
              obtain rfl := f6 (hall _ (by decide))
              obtain rfl := f9 (hall _ (by decide))
              obtain ⟨g0, rfl, h0, b0⟩ := OwnQ.ratAtB (by have := f7 (hall _ (by decide)); rwa [hall 8 (by decide)] at this)
              obtain ⟨gqn, Aqn, nqn, cqn, gqd, Aqd, nqd, cqd, Sq, Iq⟩ := h0
              replace R12 := R12.after HB
              replace B12 := B12.trans (HB.mono B12.size)
              clear HX HI HB
              have ⟨x0, x1, x2, x3, _⟩ := Sq
              have ⟨v0, v1, v2, v3, k0, k1, k2, k3, _⟩ := R12
              go_wp2
              refine bodyPost_ret (v := .tuple #[.agg #[.bool gqn, .slice Aqn nqn cqn, .bool gqd, .slice Aqd nqd cqd], .int .i64 0]) (by obtain ⟨v0, v1, v2, v3⟩ := R12.set4e (.bool gqn) (.slice Aqn nqn cqn) (.bool gqd) (.slice Aqd nqd cqd); simp [results, Tryd.results28, go_sem, v0, v1, v2, v3]) rfl ⟨r, HBd, .inl ⟨_, _, _, _, _, _, _, _, _, rfl, Iq.stored4 R12 rfl rfl rfl rfl _ _ _ _, ?_, HGd⟩⟩
              exact Below.set4 B12 (by omega) _ _ _ _
        · have hs2 := cmpN_le0 ht2 hru
          clear ht2
          have ZN : Sz 1 u := Zu
          have hN : nearR (a * (dd : Int) % m) (r : Int) m = u := by rw [hu]; exact nearR_le hru
          go_upto_region 11 with (fail)
          obtain ⟨W11, rfl⟩ : ∃ x : World, x = w10 := ⟨_, rfl⟩
          have D11 := D9
          obtain ⟨nv, hnv⟩ : ∃ nv, u = nv := ⟨_, rfl⟩
          rw [hnv] at In ZN hN
          obtain ⟨t3, ht3⟩ : ∃ t, cmpN ((nv.natAbs : Nat) : Int) (r : Int) = t := ⟨_, rfl⟩
          have HT3 := Lib.hid ht3
          have HS : Hid (∀ V, Below W11.heap.size W11 V → ((V.cell? ⟨g0, 0, none⟩ = some (.bool gn) ∧ V.cell? ⟨g0, 1, none⟩ = some (.slice An nn cn))) ∧ ((V.cell? ⟨g7, 0, none⟩ = some (.bool gr) ∧ V.cell? ⟨g7, 1, none⟩ = some (.slice Ar nr cr))) ∧ ((V.cell? ⟨w.heap.size + 1, 0, none⟩ = some (.bool gm) ∧ V.cell? ⟨w.heap.size + 1, 1, none⟩ = some (.slice Am nm cm))) ∧ (V.cell? ⟨g6, 0, none⟩ = some (.bool go) ∧ V.cell? ⟨g6, 1, none⟩ = some (.slice Ao no co))) := fun V hV => by
            have hB := D11.trans (hV.mono D11.size)
            exact ⟨⟨(Sn.after hV).1, (Sn.after hV).2.1⟩, ⟨(Sr.after hB).1, (Sr.after hB).2.1⟩, ⟨(Pm.after hB).1, (Pm.after hB).2.1⟩, (So.after hB).1, (So.after hB).2.1⟩
          have HI : Hid (∀ V, Below W11.heap.size W11 V → IsInt V gr Ar nr cr (r : Int) ∧ IsInt V gm Am nm cm m ∧ IsInt V go Ao no co 1) := fun V hV => by
            have hB := D11.trans (hV.mono D11.size)
            exact ⟨ir.below hB, Im.below hB, io.below hB⟩
          have ZA := ZN.abs
          rcases Int.lt_or_le (r : Int) ((nv.natAbs : Nat) : Int) with hna | hna
          · have hs3 := cmp_le0 ht3 hna
            clear ht3
            go_upto_region 11 with (fail)
            have Dq0 : Below W11.heap.size W11 W11.drew := (Below.refl _ _).drew
            refine wp_region_seq (.pre [(0, true), (2, true), (1, false), (3, false), (4, true), (5, true), (6, true), (7, true), (8, true), (9, true), (10, true), (11, true), (12, true)] .done) (fun W => ((W.cell? ⟨g0, 0, none⟩ = some (.bool gn) ∧ W.cell? ⟨g0, 1, none⟩ = some (.slice An nn cn))) ∧ ((W.cell? ⟨g7, 0, none⟩ = some (.bool gr) ∧ W.cell? ⟨g7, 1, none⟩ = some (.slice Ar nr cr))) ∧ ((W.cell? ⟨w.heap.size + 1, 0, none⟩ = some (.bool gm) ∧ W.cell? ⟨w.heap.size + 1, 1, none⟩ = some (.slice Am nm cm))) ∧ (W.cell? ⟨g6, 0, none⟩ = some (.bool go) ∧ W.cell? ⟨g6, 1, none⟩ = some (.slice Ao no co))) (by kernel_rfl) (by kernel_rfl) ?_ (by kernel_rfl) (HS.out _ Dq0) ?_
            · refine chk_pre _ _ _ (by as_aux_lemma => kernel_rfl) ?_
              exact (by as_aux_lemma => kernel_rfl)
            refine seq_take _ ?_ rfl (Or.inl ⟨by rfl, ?_⟩) ?_
            rotate_left
            · (intro w hSw; (try dsimp only at hSw); go_simp; (try with_reducible rfl))
            try simp only [Act.put, List.setIfInBounds_toArray, List.set_cons_zero, List.set_cons_succ]
            refine seq_take _ ?_ rfl (Or.inl ⟨by rfl, ?_⟩) ?_
            rotate_left
            · (intro w hSw; (try dsimp only at hSw); go_simp; (try with_reducible rfl))
            try simp only [Act.put, List.setIfInBounds_toArray, List.set_cons_zero, List.set_cons_succ]
            refine seq_one _ rfl fun K hK => ?_
            go_simp
            (with_reducible refine (rabs_z gn An nn cn _ (In.below Dq0) ZN).mono ?_)
            rintro e vq1 ⟨gq1, Aq1, nq1, cq1, rfl, iq1, bq1⟩
            have Dq1 : Below W11.heap.size W11 vq1 := Below.trans Dq0 (bq1.mono (Below.size Dq0))
            go_wp2_with fail
            refine hK.out _ _ (HS.out _ Dq1) (fun hHeld => ?_)
            clear hK K hHeld
            try simp only [Act.put, List.setIfInBounds_toArray, List.set_cons_zero, List.set_cons_succ]
            refine seq_one _ rfl fun K hK => ?_
            go_simp
            (with_reducible refine (rcmp_z gq1 gr Aq1 Ar nq1 cq1 nr cr _ t3 iq1 (HI.out _ Dq1).1 ZA Zr HT3.out).mono ?_)
            rintro e vq2 ⟨rfl, bq2⟩
            have Dq2 : Below W11.heap.size W11 vq2 := Below.trans Dq1 (bq2.mono (Below.size Dq1))
            go_wp2_with fail
            refine hK.out _ _ (HS.out _ Dq2) (fun hHeld => ?_)
            clear hK K hHeld
            try simp only [Act.put, List.setIfInBounds_toArray, List.set_cons_zero, List.set_cons_succ]
            refine seq_take _ ?_ rfl (Or.inl ⟨by rfl, ?_⟩) ?_
            rotate_left
            · (intro w hSw; (try dsimp only at hSw); go_simp; (try with_reducible rfl))
            try simp only [Act.put, List.setIfInBounds_toArray, List.set_cons_zero, List.set_cons_succ]
            refine seq_take _ ?_ rfl (Or.inl ⟨by rfl, ?_⟩) ?_
            rotate_left
            · (intro w hSw; (try dsimp only at hSw); go_simp; (try with_reducible rfl))
            try simp only [Act.put, List.setIfInBounds_toArray, List.set_cons_zero, List.set_cons_succ]
            refine seq_take _ _ rfl (Or.inr ⟨by rfl, rfl⟩) ?_
            try simp only [Act.put, List.setIfInBounds_toArray, List.set_cons_zero, List.set_cons_succ]
            refine seq_take _ _ rfl (Or.inr ⟨by rfl, rfl⟩) ?_
            try simp only [Act.put, List.setIfInBounds_toArray, List.set_cons_zero, List.set_cons_succ]
            refine seq_take _ _ rfl (Or.inr ⟨by rfl, rfl⟩) ?_
            try simp only [Act.put, List.setIfInBounds_toArray, List.set_cons_zero, List.set_cons_succ]
            refine seq_take _ _ rfl (Or.inr ⟨by rfl, rfl⟩) ?_
            try simp only [Act.put, List.setIfInBounds_toArray, List.set_cons_zero, List.set_cons_succ]
            refine seq_take _ _ rfl (Or.inr ⟨by rfl, rfl⟩) ?_
            try simp only [Act.put, List.setIfInBounds_toArray, List.set_cons_zero, List.set_cons_succ]
            refine seq_take _ _ rfl (Or.inr ⟨by rfl, rfl⟩) ?_
            try simp only [Act.put, List.setIfInBounds_toArray, List.set_cons_zero, List.set_cons_succ]
            refine seq_take _ ?_ rfl (Or.inl ⟨by rfl, ?_⟩) ?_
            rotate_left
            · (intro w hSw; (try dsimp only at hSw); go_simp; (try with_reducible rfl))
            try simp only [Act.put, List.setIfInBounds_toArray, List.set_cons_zero, List.set_cons_succ]
            refine NoPanic.normal ?_
            go_wp2_with fail
            go_roundw
            case rel => exact ⟨dd + 1, by go_num, by omega, by omega, D.trans ((D11.trans (Dq2.mono D11.size)).mono D.size), not_good HBL.out HN (by rw [hN]; exact .inl hna)⟩
            case measure => simp [intOf]; omega
          · have hs3 := cmp_le1 ht3 hna
            clear ht3
            obtain ⟨s, hs⟩ : ∃ s, decide (((Nat.gcd (dd : Int).natAbs m.natAbs : Nat) : Int) = 1) = s := ⟨_, rfl⟩
            have HG := Lib.hid hs
            go_upto_region 11 with (fail)
            have Dq0 : Below W11.heap.size W11 W11.drew := (Below.refl _ _).drew
            refine wp_region_seq (.pre [(0, true), (2, true), (1, false), (3, false), (4, true), (5, true), (6, true), (8, true), (10, true), (7, false), (9, false), (11, false), (12, true)] .done) (fun W => ((W.cell? ⟨g0, 0, none⟩ = some (.bool gn) ∧ W.cell? ⟨g0, 1, none⟩ = some (.slice An nn cn))) ∧ ((W.cell? ⟨g7, 0, none⟩ = some (.bool gr) ∧ W.cell? ⟨g7, 1, none⟩ = some (.slice Ar nr cr))) ∧ ((W.cell? ⟨w.heap.size + 1, 0, none⟩ = some (.bool gm) ∧ W.cell? ⟨w.heap.size + 1, 1, none⟩ = some (.slice Am nm cm))) ∧ (W.cell? ⟨g6, 0, none⟩ = some (.bool go) ∧ W.cell? ⟨g6, 1, none⟩ = some (.slice Ao no co))) (by kernel_rfl) (by kernel_rfl) ?_ (by kernel_rfl) (HS.out _ Dq0) ?_
            · refine chk_pre _ _ _ (by as_aux_lemma => kernel_rfl) ?_
              exact (by as_aux_lemma => kernel_rfl)
            refine seq_take _ ?_ rfl (Or.inl ⟨by rfl, ?_⟩) ?_
            rotate_left
            · (intro w hSw; (try dsimp only at hSw); go_simp; (try with_reducible rfl))
            try simp only [Act.put, List.setIfInBounds_toArray, List.set_cons_zero, List.set_cons_succ]
            refine seq_take _ ?_ rfl (Or.inl ⟨by rfl, ?_⟩) ?_
            rotate_left
            · (intro w hSw; (try dsimp only at hSw); go_simp; (try with_reducible rfl))
            try simp only [Act.put, List.setIfInBounds_toArray, List.set_cons_zero, List.set_cons_succ]
            refine seq_one _ rfl fun K hK => ?_
            go_simp
            (with_reducible refine (rabs_z gn An nn cn _ (In.below Dq0) ZN).mono ?_)
            rintro e vq1 ⟨gq1, Aq1, nq1, cq1, rfl, iq1, bq1⟩
            have Dq1 : Below W11.heap.size W11 vq1 := Below.trans Dq0 (bq1.mono (Below.size Dq0))
            go_wp2_with fail
            refine hK.out _ _ (HS.out _ Dq1) (fun hHeld => ?_)
            clear hK K hHeld
            try simp only [Act.put, List.setIfInBounds_toArray, List.set_cons_zero, List.set_cons_succ]
            refine seq_one _ rfl fun K hK => ?_
            go_simp
            (with_reducible refine (rcmp_z gq1 gr Aq1 Ar nq1 cq1 nr cr _ t3 iq1 (HI.out _ Dq1).1 ZA Zr HT3.out).mono ?_)
            rintro e vq2 ⟨rfl, bq2⟩
            have Dq2 : Below W11.heap.size W11 vq2 := Below.trans Dq1 (bq2.mono (Below.size Dq1))
            go_wp2_with fail
            refine hK.out _ _ (HS.out _ Dq2) (fun hHeld => ?_)
            clear hK K hHeld
            try simp only [Act.put, List.setIfInBounds_toArray, List.set_cons_zero, List.set_cons_succ]
            refine seq_take _ ?_ rfl (Or.inl ⟨by rfl, ?_⟩) ?_
            rotate_left
            · (intro w hSw; (try dsimp only at hSw); go_simp; (try with_reducible rfl))
            try simp only [Act.put, List.setIfInBounds_toArray, List.set_cons_zero, List.set_cons_succ]
            refine seq_take _ ?_ rfl (Or.inl ⟨by rfl, ?_⟩) ?_
            rotate_left
            · (intro w hSw; (try dsimp only at hSw); go_simp; (try with_reducible rfl))
            try simp only [Act.put, List.setIfInBounds_toArray, List.set_cons_zero, List.set_cons_succ]
            refine seq_take _ ?_ rfl (Or.inl ⟨by rfl, ?_⟩) ?_
            rotate_left
            · (intro w hSw; (try dsimp only at hSw); go_simp; (try with_reducible rfl))
            try simp only [Act.put, List.setIfInBounds_toArray, List.set_cons_zero, List.set_cons_succ]
            refine seq_take _ ?_ rfl (Or.inl ⟨by rfl, ?_⟩) ?_
            rotate_left
            · (intro w hSw; (try dsimp only at hSw); go_simp; (try with_reducible rfl))
            try simp only [Act.put, List.setIfInBounds_toArray, List.set_cons_zero, List.set_cons_succ]
            refine seq_take _ ?_ rfl (Or.inl ⟨by rfl, ?_⟩) ?_
            rotate_left
            · (intro w hSw; (try dsimp only at hSw); go_simp; (try with_reducible rfl))
            try simp only [Act.put, List.setIfInBounds_toArray, List.set_cons_zero, List.set_cons_succ]
            refine seq_one _ rfl fun K hK => ?_
            go_simp
            (with_reducible refine (rof_any (dd : Int) _ Hdl.1 Hdl.2).mono ?_)
            rintro e vq3 ⟨gq3, Aq3, nq3, cq3, rfl, iq3, bq3⟩
            have Dq3 : Below W11.heap.size W11 vq3 := Below.trans Dq2 (bq3.mono (Below.size Dq2))
            go_wp2_with fail
            refine hK.out _ _ (HS.out _ Dq3) (fun hHeld => ?_)
            clear hK K hHeld
            try simp only [Act.put, List.setIfInBounds_toArray, List.set_cons_zero, List.set_cons_succ]
            refine seq_one _ rfl fun K hK => ?_
            go_simp
            (with_reducible refine (rgcd_z gq3 gm Aq3 Am nq3 cq3 nm cm _ iq3 (HI.out _ Dq3).2.1 Zd Zm (by decide)).mono ?_)
            rintro e vq4 ⟨gq4, Aq4, nq4, cq4, rfl, iq4, bq4⟩
            have Dq4 : Below W11.heap.size W11 vq4 := Below.trans Dq3 (bq4.mono (Below.size Dq3))
            go_wp2_with fail
            refine hK.out _ _ (HS.out _ Dq4) (fun hHeld => ?_)
            clear hK K hHeld
            try simp only [Act.put, List.setIfInBounds_toArray, List.set_cons_zero, List.set_cons_succ]
            refine seq_one _ rfl fun K hK => ?_
            go_simp
            (with_reducible refine (same_v gq4 go Aq4 Ao nq4 cq4 no co _ s iq4 (HI.out _ Dq4).2.2 HG.out.symm).mono ?_)
            rintro e vq5 ⟨rfl, bq5⟩
            have Dq5 : Below W11.heap.size W11 vq5 := Below.trans Dq4 (bq5.mono (Below.size Dq4))
            go_wp2_with fail
            refine hK.out _ _ (HS.out _ Dq5) (fun hHeld => ?_)
            clear hK K hHeld
            try simp only [Act.put, List.setIfInBounds_toArray, List.set_cons_zero, List.set_cons_succ]
            refine seq_take _ ?_ rfl (Or.inl ⟨by rfl, ?_⟩) ?_
            rotate_left
            · (intro w hSw; (try dsimp only at hSw); go_simp; (try with_reducible rfl))
            try simp only [Act.put, List.setIfInBounds_toArray, List.set_cons_zero, List.set_cons_succ]
            refine NoPanic.normal ?_
            by_cases hgc : Nat.gcd (dd : Int).natAbs m.natAbs = 1
            case' neg =>
              obtain rfl : s = false := by rw [← HG.out]; exact decide_eq_false (by omega)
              go_wp2_with fail
              go_roundw
              case rel => exact ⟨dd + 1, by go_num, by omega, by omega, D.trans ((D11.trans (Dq5.mono D11.size)).mono D.size), not_good HBL.out HN (.inr hgc)⟩
              case measure => simp [intOf]; omega
            obtain rfl : s = true := by rw [← HG.out]; exact decide_eq_true (by omega)
            have HGd : Hid (Good a m (r : Int) (Rat.divInt nv dd).num ((Rat.divInt nv dd).den : Int)) := by
              have := good_of (a := a) (m := m) (r := (r : Int)) (d := (dd : Int)) (by omega) (by omega) hgc (by rw [hN]; exact hna)
              rw [hN] at this
              exact this
            have D12 := D11.trans (Dq5.mono D11.size)
            have S12 := Sn.after Dq5
            have I12 := In.below Dq5
            have Hd0 : (dd : Int) ≠ 0 := by omega
            have R12 := R.after D12
            have B12 := B.trans (D12.mono B.size)
            clear HS HI HG hs
            generalize vq5 = W12 at *
            go_wp2_with fail
            have HX : Hid (∀ V, Below W12.heap.size W12 V → (V.cell? ⟨g0, 0, none⟩ = some (.bool gn) ∧ V.cell? ⟨g0, 1, none⟩ = some (.slice An nn cn))) := fun V hV => ⟨(S12.after hV).1, (S12.after hV).2.1⟩
            have HI : Hid (∀ V, Below W12.heap.size W12 V → IsInt V gn An nn cn nv) := fun V hV => I12.below hV
            refine wp_region_ev (fun d a0 a' w' => ∃ u58 u59 u60 u61 u57 u62 u63 u10 u11 : Value, a' = (((((((((a0.put (some 58) u58).put (some 59) u59).put (some 60) u60).put (some 61) u61).put (some 57) u57).put (some 62) u62).put (some 63) u63).put (some 10) u10).put (some 11) u11) ∧ Below W12.heap.size W12 w' ∧ (d 0 = true → u58 = .agg #[.bool gn, .slice An nn cn]) ∧ (d 1 = true → u59 = .int .i64 (dd : Int)) ∧ (d 2 = true → IntV w' u60 ((dd : Int))) ∧ (d 3 = true → TupQ w' u61 (Rat.divInt nv (dd : Int)) (0)) ∧ (d 4 = true → TupQ w' u57 (Rat.divInt nv (dd : Int)) (0)) ∧ (d 5 = true → RatV w' u62 (Rat.divInt nv (dd : Int))) ∧ (d 6 = true → u63 = .int .i64 (0)) ∧ (d 9 = true → u11 = .int .i64 (0)) ∧ (d 7 = true → OwnQ W12.heap.size w' u10 (d 8) (Rat.divInt nv (dd : Int))) ∧ (d 8 = true → d 7 = true)) (by kernel_rfl) (by kernel_rfl) ?_ ?_ ?_ ?_
            · intro d d' h a' w' hh
              obtain rfl : d = d' := funext h
              exact hh
            · exact ⟨_, _, _, _, _, _, _, _, _, (by simp only [Act.put, List.setIfInBounds_toArray, List.set_cons_zero, List.set_cons_succ]; rfl), (Below.refl _ _).drew, (fun h => by cases h), (fun h => by cases h), (fun h => by cases h), (fun h => by cases h), (fun h => by cases h), (fun h => by cases h), (fun h => by cases h), (fun h => by cases h), (fun h => by cases h), (fun h => by cases h)⟩
            · refine ⟨?_, ?_, ?_, ?_, ?_, ?_, ?_, ?_, ?_, ?_, trivial⟩
              · intro d a2 w2 hd hm ⟨u58, u59, u60, u61, u57, u62, u63, u10, u11, e, HB, f0, f1, f2, f3, f4, f5, f6, f9, f7, t0⟩ K hK
                subst e
                simp only [Act.put, List.setIfInBounds_toArray, List.set_cons_zero, List.set_cons_succ]
                obtain ⟨q0, q1⟩ := HX.out w2 HB
                go_simp
                exact hK.out _ _ ⟨.agg #[.bool gn, .slice An nn cn], u59, u60, u61, u57, u62, u63, u10, u11, (by simp only [Act.put, List.setIfInBounds_toArray, List.set_cons_zero, List.set_cons_succ]), HB, (fun _ => rfl), (fun h => f1 (by simpa using h)), (fun h => (f2 (by simpa using h))), (fun h => (f3 (by simpa using h))), (fun h => (f4 (by simpa using h))), (fun h => (f5 (by simpa using h))), (fun h => f6 (by simpa using h)), (fun h => f9 (by simpa using h)), (fun h => by simpa using (f7 (by simpa using h))), (fun h => by simpa using t0 (by simpa using h))⟩
              · intro d a2 w2 hd hm ⟨u58, u59, u60, u61, u57, u62, u63, u10, u11, e, HB, f0, f1, f2, f3, f4, f5, f6, f9, f7, t0⟩ K hK
                subst e
                simp only [Act.put, List.setIfInBounds_toArray, List.set_cons_zero, List.set_cons_succ]
                go_simp
                exact hK.out _ _ ⟨u58, .int .i64 (dd : Int), u60, u61, u57, u62, u63, u10, u11, (by simp only [Act.put, List.setIfInBounds_toArray, List.set_cons_zero, List.set_cons_succ]), HB, (fun h => f0 (by simpa using h)), (fun _ => rfl), (fun h => (f2 (by simpa using h))), (fun h => (f3 (by simpa using h))), (fun h => (f4 (by simpa using h))), (fun h => (f5 (by simpa using h))), (fun h => f6 (by simpa using h)), (fun h => f9 (by simpa using h)), (fun h => by simpa using (f7 (by simpa using h))), (fun h => by simpa using t0 (by simpa using h))⟩
              · intro d a2 w2 hd hm ⟨u58, u59, u60, u61, u57, u62, u63, u10, u11, e, HB, f0, f1, f2, f3, f4, f5, f6, f9, f7, t0⟩ K hK
                subst e
                simp only [Act.put, List.setIfInBounds_toArray, List.set_cons_zero, List.set_cons_succ]
                obtain rfl := f1 (hm ⟨1, .data⟩ (by simp) rfl)
                clear f1
                go_simp
                (with_reducible refine (rof_any (dd : Int) _ Hdl.1 Hdl.2).mono ?_)
                rintro e w3 ⟨gg, AA, nn, cc, rfl, hi, hb⟩
                have HB3 := HB.trans (hb.mono HB.size)
                go_wp2_with fail
                exact hK.out _ _ ⟨u58, .int .i64 (dd : Int), .agg #[.bool gg, .slice AA nn cc], u61, u57, u62, u63, u10, u11, (by simp only [Act.put, List.setIfInBounds_toArray, List.set_cons_zero, List.set_cons_succ]), HB3, (fun h => f0 (by simpa using h)), (fun _ => rfl), (fun _ => ⟨_, _, _, _, rfl, hi⟩), (fun h => (f3 (by simpa using h)).below hb), (fun h => (f4 (by simpa using h)).below hb), (fun h => (f5 (by simpa using h)).below hb), (fun h => f6 (by simpa using h)), (fun h => f9 (by simpa using h)), (fun h => by simpa using (f7 (by simpa using h)).below hb), (fun h => by simpa using t0 (by simpa using h))⟩
              · intro d a2 w2 hd hm ⟨u58, u59, u60, u61, u57, u62, u63, u10, u11, e, HB, f0, f1, f2, f3, f4, f5, f6, f9, f7, t0⟩ K hK
                subst e
                simp only [Act.put, List.setIfInBounds_toArray, List.set_cons_zero, List.set_cons_succ]
                obtain rfl := f0 (hm ⟨0, .data⟩ (by simp) rfl)
                clear f0
                obtain ⟨G2, A2, N2, C2, rfl, I2⟩ := f2 (hm ⟨2, .data⟩ (by simp) rfl)
                go_simp
                (with_reducible refine (rqof_z gn An nn cn G2 A2 N2 C2 _ (HI.out _ HB) I2 ZN Zd (by decide) Hd0).mono ?_)
                rintro e w3 ⟨g1, A1', n1', c1', g2, A2', n2', c2', rfl, hi, hb⟩
                have HB3 := HB.trans (hb.mono HB.size)
                go_wp2_with fail
                exact hK.out _ _ ⟨.agg #[.bool gn, .slice An nn cn], u59, .agg #[.bool G2, .slice A2 N2 C2], .tuple #[.agg #[.bool g1, .slice A1' n1' c1', .bool g2, .slice A2' n2' c2'], .int .i64 (0)], u57, u62, u63, u10, u11, (by simp only [Act.put, List.setIfInBounds_toArray, List.set_cons_zero, List.set_cons_succ]), HB3, (fun _ => rfl), (fun h => f1 (by simpa using h)), (fun h => (f2 (by simpa using h)).below hb), (fun _ => ⟨_, rfl, ⟨_, _, _, _, _, _, _, _, rfl, hi⟩⟩), (fun h => (f4 (by simpa using h)).below hb), (fun h => (f5 (by simpa using h)).below hb), (fun h => f6 (by simpa using h)), (fun h => f9 (by simpa using h)), (fun h => by simpa using (f7 (by simpa using h)).below hb), (fun h => by simpa using t0 (by simpa using h))⟩
              · intro d a2 w2 hd hm ⟨u58, u59, u60, u61, u57, u62, u63, u10, u11, e, HB, f0, f1, f2, f3, f4, f5, f6, f9, f7, t0⟩ K hK
                subst e
                simp only [Act.put, List.setIfInBounds_toArray, List.set_cons_zero, List.set_cons_succ]
                obtain ⟨V3, rfl, I3⟩ := f3 (hm ⟨3, .data⟩ (by simp) rfl)
                go_simp
                exact hK.out _ _ ⟨u58, u59, u60, .tuple #[V3, .int .i64 (0)], .tuple #[V3, .int .i64 (0)], u62, u63, u10, u11, (by simp only [Act.put, List.setIfInBounds_toArray, List.set_cons_zero, List.set_cons_succ]), HB, (fun h => f0 (by simpa using h)), (fun h => f1 (by simpa using h)), (fun h => (f2 (by simpa using h))), (fun h => (f3 (by simpa using h))), (fun _ => ⟨V3, rfl, I3⟩), (fun h => (f5 (by simpa using h))), (fun h => f6 (by simpa using h)), (fun h => f9 (by simpa using h)), (fun h => by simpa using (f7 (by simpa using h))), (fun h => by simpa using t0 (by simpa using h))⟩
              · intro d a2 w2 hd hm ⟨u58, u59, u60, u61, u57, u62, u63, u10, u11, e, HB, f0, f1, f2, f3, f4, f5, f6, f9, f7, t0⟩ K hK
                subst e
                simp only [Act.put, List.setIfInBounds_toArray, List.set_cons_zero, List.set_cons_succ]
                obtain ⟨V4, rfl, I4⟩ := f4 (hm ⟨4, .data⟩ (by simp) rfl)
                go_simp
                exact hK.out _ _ ⟨u58, u59, u60, u61, .tuple #[V4, .int .i64 (0)], V4, u63, u10, u11, (by simp only [Act.put, List.setIfInBounds_toArray, List.set_cons_zero, List.set_cons_succ]), HB, (fun h => f0 (by simpa using h)), (fun h => f1 (by simpa using h)), (fun h => (f2 (by simpa using h))), (fun h => (f3 (by simpa using h))), (fun h => (f4 (by simpa using h))), (fun _ => I4), (fun h => f6 (by simpa using h)), (fun h => f9 (by simpa using h)), (fun h => by simpa using (f7 (by simpa using h))), (fun h => by simpa using t0 (by simpa using h))⟩
              · intro d a2 w2 hd hm ⟨u58, u59, u60, u61, u57, u62, u63, u10, u11, e, HB, f0, f1, f2, f3, f4, f5, f6, f9, f7, t0⟩ K hK
                subst e
                simp only [Act.put, List.setIfInBounds_toArray, List.set_cons_zero, List.set_cons_succ]
                obtain ⟨V4, rfl, I4⟩ := f4 (hm ⟨4, .data⟩ (by simp) rfl)
                go_simp
                exact hK.out _ _ ⟨u58, u59, u60, u61, .tuple #[V4, .int .i64 (0)], u62, .int .i64 (0), u10, u11, (by simp only [Act.put, List.setIfInBounds_toArray, List.set_cons_zero, List.set_cons_succ]), HB, (fun h => f0 (by simpa using h)), (fun h => f1 (by simpa using h)), (fun h => (f2 (by simpa using h))), (fun h => (f3 (by simpa using h))), (fun h => (f4 (by simpa using h))), (fun h => (f5 (by simpa using h))), (fun _ => rfl), (fun h => f9 (by simpa using h)), (fun h => by simpa using (f7 (by simpa using h))), (fun h => by simpa using t0 (by simpa using h))⟩
              · intro d a2 w2 hd hm ⟨u58, u59, u60, u61, u57, u62, u63, u10, u11, e, HB, f0, f1, f2, f3, f4, f5, f6, f9, f7, t0⟩ K hK
                subst e
                simp only [Act.put, List.setIfInBounds_toArray, List.set_cons_zero, List.set_cons_succ]
                have hb : Below w2.heap.size w2 (w2.alloc (.cells #[.bool false, .slice none 0 0, .bool false, .slice none 0 0] 57)) := (Below.refl _ _).alloc (Nat.le_refl _) _
                have HB3 := HB.trans (hb.mono HB.size)
                go_simp
                exact hK.out _ _ ⟨u58, u59, u60, u61, u57, u62, u63, .pointer (some ⟨w2.heap.size, 0, none⟩), u11, (by simp only [Act.put, List.setIfInBounds_toArray, List.set_cons_zero, List.set_cons_succ]), HB3, (fun h => f0 (by simpa using h)), (fun h => f1 (by simpa using h)), (fun h => (f2 (by simpa using h)).below hb), (fun h => (f3 (by simpa using h)).below hb), (fun h => (f4 (by simpa using h)).below hb), (fun h => (f5 (by simpa using h)).below hb), (fun h => f6 (by simpa using h)), (fun h => f9 (by simpa using h)), (fun _ => by have hs : d 8 = false := (by cases hq : d 8 with | false => rfl | true => (have hz := t0 hq; rw [hd] at hz; cases hz)); simpa [hs] using OwnQ.new HB.size (Rat.divInt nv (dd : Int))), (fun _ => by simp)⟩
              · intro d a2 w2 hd hm ⟨u58, u59, u60, u61, u57, u62, u63, u10, u11, e, HB, f0, f1, f2, f3, f4, f5, f6, f9, f7, t0⟩ K hK
                subst e
                simp only [Act.put, List.setIfInBounds_toArray, List.set_cons_zero, List.set_cons_succ]
                obtain ⟨gg, AA, nn, cc, gg', AA', nn', cc', rfl, hi⟩ := f5 (hm ⟨5, .data⟩ (by simp) rfl)
                obtain ⟨g, rfl, hg, b0, b1, b2, b3, hs, n0, n1, n2, n3, _⟩ := f7 (hm ⟨7, .data⟩ (by simp) rfl)
                obtain ⟨k0, k1, k2, k3, k4, k5, k6, k7, k8⟩ := id hs
                go_simp
                exact hK.out _ _ ⟨u58, u59, u60, u61, u57, .agg #[.bool gg, .slice AA nn cc, .bool gg', .slice AA' nn' cc'], u63, .pointer (some ⟨g, 0, none⟩), u11, (by simp only [Act.put, List.setIfInBounds_toArray, List.set_cons_zero, List.set_cons_succ]), Below.set4 HB hg _ _ _ _, (fun h => f0 (by simpa using h)), (fun h => f1 (by simpa using h)), (fun h => (f2 (by simpa using h)).set4 hs n0 n1 n2 n3 _ _ _ _), (fun h => (f3 (by simpa using h)).set4 hs n0 n1 n2 n3 _ _ _ _), (fun h => (f4 (by simpa using h)).set4 hs n0 n1 n2 n3 _ _ _ _), (fun h => (f5 (by simpa using h)).set4 hs n0 n1 n2 n3 _ _ _ _), (fun h => f6 (by simpa using h)), (fun h => f9 (by simpa using h)), (fun _ => by simpa using OwnQ.near hi hg hs n0 n1 n2 n3), (fun _ => by simpa using hm ⟨7, .data⟩ (by simp) rfl)⟩
              · intro d a2 w2 hd hm ⟨u58, u59, u60, u61, u57, u62, u63, u10, u11, e, HB, f0, f1, f2, f3, f4, f5, f6, f9, f7, t0⟩ K hK
                subst e
                simp only [Act.put, List.setIfInBounds_toArray, List.set_cons_zero, List.set_cons_succ]
                obtain rfl := f6 (hm ⟨6, .data⟩ (by simp) rfl)
                clear f6
                go_simp
                exact hK.out _ _ ⟨u58, u59, u60, u61, u57, u62, .int .i64 (0), u10, .int .i64 (0), (by simp only [Act.put, List.setIfInBounds_toArray, List.set_cons_zero, List.set_cons_succ]), HB, (fun h => f0 (by simpa using h)), (fun h => f1 (by simpa using h)), (fun h => (f2 (by simpa using h))), (fun h => (f3 (by simpa using h))), (fun h => (f4 (by simpa using h))), (fun h => (f5 (by simpa using h))), (fun _ => rfl), (fun _ => rfl), (fun h => by simpa using (f7 (by simpa using h))), (fun h => by simpa using t0 (by simpa using h))⟩
            · intro d a2 w2 hall ⟨u58, u59, u60, u61, u57, u62, u63, u10, u11, e, HB, f0, f1, f2, f3, f4, f5, f6, f9, f7, t0⟩
              subst e
              simp only [Act.put, List.setIfInBounds_toArray, List.set_cons_zero, List.set_cons_succ]
              obtain rfl := f0 (hall _ (by decide))
              obtain rfl := f1 (hall _ (by decide))
              obtain rfl := f6 (hall _ (by decide))
              obtain rfl := f9 (hall _ (by decide))
              obtain ⟨g0, rfl, h0, b0⟩ := OwnQ.ratAtB (by have := f7 (hall _ (by decide)); rwa [hall 8 (by decide)] at this)
              obtain ⟨gqn, Aqn, nqn, cqn, gqd, Aqd, nqd, cqd, Sq, Iq⟩ := h0
              replace R12 := R12.after HB
              replace B12 := B12.trans (HB.mono B12.size)
              clear HX HI HB
              have ⟨x0, x1, x2, x3, _⟩ := Sq
              have ⟨v0, v1, v2, v3, k0, k1, k2, k3, _⟩ := R12
              go_wp2
              refine bodyPost_ret (v := .tuple #[.agg #[.bool gqn, .slice Aqn nqn cqn, .bool gqd, .slice Aqd nqd cqd], .int .i64 0]) (by obtain ⟨v0, v1, v2, v3⟩ := R12.set4e (.bool gqn) (.slice Aqn nqn cqn) (.bool gqd) (.slice Aqd nqd cqd); simp [results, Tryd.results28, go_sem, v0, v1, v2, v3]) rfl ⟨r, HBd, .inl ⟨_, _, _, _, _, _, _, _, _, rfl, Iq.stored4 R12 rfl rfl rfl rfl _ _ _ _, ?_, HGd⟩⟩
              exact Below.set4 B12 (by omega) _ _ _ _
end Go.Proofs.YtclmenpclkmfeaaDoor
