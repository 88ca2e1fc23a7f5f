/- The walk of the law CrtRationalMatchesReference, given what its fixed examples return. -/
import Derived.Test.YtclmenpclkmfeaaDoorVCrtSan
import Derived.Test.YtclmenpclkmfeaaDoorVCrtRR
namespace Go.Proofs.YtclmenpclkmfeaaDoor
open Go.RowKit
set_option maxRecDepth 1000000 in
set_option maxHeartbeats 8000000 in
theorem law_crm (HSan : SanC) (A1 : Option Addr) (n1 c1 : Nat) (s1 : Bool) (xs : List Nat) (j : Int) (w : World) (ha : Lim w w.heap.size A1 n1 c1 xs) (hj1 : -2147483648 ≤ j) (hj2 : j ≤ 2147483647) (hT : TabW w) (h5 : TabN w.heap.size) :
    Calls Tryd.prog 7 #[.agg #[.slice A1 n1 c1, .bool s1], .int .i32 j] w fun e w' => e = .returned (.bool true) ∧ Below w.heap.size w w' := by
  have B0 := (Below.refl w.heap.size w).alloc (Nat.le_refl _) (.cells #[.slice A1 n1 c1, .bool s1] 45)
  have X0 := Slot2.new w (.slice A1 n1 c1) (.bool s1) 45
  obtain ⟨a, hae⟩ : ∃ a, zOf s1 (val (xs.take 2)) = a := ⟨_, rfl⟩
  have Za : Sz 2 a := by rw [← hae]; exact Sz.raw s1 xs 2 ha.lt (by decide)
  have HM1 : Hid (∀ V, Below w.heap.size w V → Calls Tryd.prog 21 #[.agg #[.slice A1 n1 c1, .bool s1], .int .i64 2] V (RetInt V a)) := fun V hV => by
    have := num_z A1 n1 c1 s1 xs 2 V ((ha.below hV).more hV.size) (by decide)
    rw [hae] at this; exact this
  have HSn := Lib.hid (HSan _ (hT.below B0 h5) (h5.le B0.size))
  obtain ⟨m, hm⟩ : ∃ m, j.tmod 1000001 = m := ⟨_, rfl⟩
  have hmb : -1000000 ≤ m ∧ m ≤ 1000000 := by
    have h := Int.natAbs_tmod j 1000001
    rw [hm] at h
    have h2 : (1000001 : Int).natAbs = 1000001 := rfl
    rw [h2] at h
    omega
  have Zm : Sz 1 m := Sz.of (by omega) (by decide)
  clear HSan ha hae hT h5
  go_enter Tryd.func7, Tryd.ntmps7
  generalize hW : w.alloc (.cells #[.slice A1 n1 c1, .bool s1] 45) = W0 at *
  go_wp2_with fail
  try rw [hW]
  clear hW
  (with_reducible refine HSn.out.mono ?_)
  rintro e w1 ⟨rfl, b1⟩
  clear HSn
  replace X0 := X0.after b1
  replace B0 := B0.trans (b1.mono B0.size)
  clear b1
  have ⟨q0, q1, _, _, _⟩ := X0
  go_wp2_with fail
  (with_reducible refine (HM1.out _ B0).mono ?_)
  rintro e w2 ⟨ga, Aa, na, ca, rfl, ia, ba⟩
  replace B0 := B0.trans (ba.mono B0.size)
  clear q0 q1 X0 HM1 ba
  go_wp2_with fail
  (with_reducible refine (rof_any m _ (by omega) (by omega)).mono ?_)
  rintro e w3 ⟨gm, Am, nm, cm, rfl, im, bm⟩
  replace ia := ia.below bm
  replace B0 := B0.trans (bm.mono B0.size)
  clear bm
  have hal := (Below.refl w3.heap.size w3).alloc (Nat.le_refl _) (.cells #[.bool ga, .slice Aa na ca] 28)
  have Sa := Slot2.new w3 (.bool ga) (.slice Aa na ca) 28
  replace ia := ia.below hal
  replace im := im.below hal
  replace B0 := B0.trans (hal.mono B0.size)
  clear hal
  have hal := (Below.refl (w3.alloc (.cells #[.bool ga, .slice Aa na ca] 28)).heap.size (w3.alloc (.cells #[.bool ga, .slice Aa na ca] 28))).alloc (Nat.le_refl _) (.cells #[.bool gm, .slice Am nm cm] 28)
  have Sm := Slot2.new (w3.alloc (.cells #[.bool ga, .slice Aa na ca] 28)) (.bool gm) (.slice Am nm cm) 28
  replace ia := ia.below hal
  replace im := im.below hal
  replace Sa := Sa.after hal
  replace B0 := B0.trans (hal.mono B0.size)
  clear hal
  simp only [World.size_alloc] at Sm
  obtain ⟨g6, hg6⟩ : ∃ x, x = w3.heap.size := ⟨_, rfl⟩
  go_upto_region 3 with (fail)
  generalize ((w3.alloc (.cells #[.bool ga, .slice Aa na ca] 28)).alloc (.cells #[.bool gm, .slice Am nm cm] 28)) = W3 at *
  rw [← hg6] at Sa Sm ⊢
  clear hg6
  rcases Int.lt_or_le m 2 with hlt | hle
  · skip
    have ⟨Sac0, Sac1, _⟩ := Sa
    have ⟨Smc0, Smc1, _⟩ := Sm
    have hlt' := hlt
    go_wp2_with fail
    (with_reducible refine (crat_small ga Aa na ca gm Am nm cm _ ia im Za Zm (by decide) hlt).mono ?_)
    rintro e w4 ⟨rfl, b8⟩
    clear Sac0 Sac1 Smc0 Smc1
    replace ia := ia.below b8
    replace im := im.below b8
    replace Sa := Sa.after b8
    replace Sm := Sm.after b8
    replace B0 := B0.trans (b8.mono B0.size)
    clear b8
    have hal := (Below.refl w4.heap.size w4).alloc (Nat.le_refl _) (.cells #[.bool false, .slice none 0 0, .bool false, .slice none 0 0] 57)
    have S8 := Slot4.new w4 (.bool false) (.slice none 0 0) (.bool false) (.slice none 0 0) 57
    replace ia := ia.below hal
    replace im := im.below hal
    replace Sa := Sa.after hal
    replace Sm := Sm.after hal
    replace B0 := B0.trans (hal.mono B0.size)
    clear hal
    obtain ⟨g8, hg8⟩ : ∃ x, x = w4.heap.size := ⟨_, rfl⟩
    go_upto_region 4 with (fail)
    generalize (w4.alloc (.cells #[.bool false, .slice none 0 0, .bool false, .slice none 0 0] 57)) = W5 at *
    rw [← hg8] at S8 ⊢
    clear hg8
    have ⟨Sac0, Sac1, _⟩ := Sa
    have ⟨Smc0, Smc1, _⟩ := Sm
    go_wp2_with fail
    (with_reducible refine (rrat_small ga Aa na ca gm Am nm cm _ ia im Zm hlt).mono ?_)
    rintro e w6 ⟨rfl, b10⟩
    clear Sac0 Sac1 Smc0 Smc1
    replace ia := ia.below b10
    replace im := im.below b10
    replace Sa := Sa.after b10
    replace Sm := Sm.after b10
    replace S8 := S8.after b10
    replace B0 := B0.trans (b10.mono B0.size)
    clear b10
    have hal := (Below.refl w6.heap.size w6).alloc (Nat.le_refl _) (.cells #[.bool false, .slice none 0 0, .bool false, .slice none 0 0] 57)
    have S10 := Slot4.new w6 (.bool false) (.slice none 0 0) (.bool false) (.slice none 0 0) 57
    replace ia := ia.below hal
    replace im := im.below hal
    replace Sa := Sa.after hal
    replace Sm := Sm.after hal
    replace S8 := S8.after hal
    replace B0 := B0.trans (hal.mono B0.size)
    clear hal
    go_upto_region 5 with (fail)
    generalize (w6.alloc (.cells #[.bool false, .slice none 0 0, .bool false, .slice none 0 0] 57)) = W7 at *
    have ⟨S8c0, S8c1, S8c2, S8c3, _⟩ := S8
    go_wp2_with fail
    go_ret
    exact ⟨rfl, B0⟩
  have ⟨Sac0, Sac1, _⟩ := Sa
  have ⟨Smc0, Smc1, _⟩ := Sm
  go_wp2_with fail
  (with_reducible refine (crat_z ga Aa na ca gm Am nm cm _ ia im Za Zm (by decide) hle).mono ?_)
  rintro e w4 ⟨r, hr, ⟨gn8, An8, nn8, cn8, gd8, Ad8, nd8, cd8, q, rfl, i8, b8, hg⟩ | ⟨rfl, b8, hg⟩⟩
  clear Sac0 Sac1 Smc0 Smc1
  all_goals skip
  · skip
    replace ia := ia.below b8
    replace im := im.below b8
    replace Sa := Sa.after b8
    replace Sm := Sm.after b8
    replace B0 := B0.trans (b8.mono B0.size)
    clear b8
    have hal := (Below.refl w4.heap.size w4).alloc (Nat.le_refl _) (.cells #[.bool gn8, .slice An8 nn8 cn8, .bool gd8, .slice Ad8 nd8 cd8] 57)
    have S8 := Slot4.new w4 (.bool gn8) (.slice An8 nn8 cn8) (.bool gd8) (.slice Ad8 nd8 cd8) 57
    replace ia := ia.below hal
    replace im := im.below hal
    replace Sa := Sa.after hal
    replace Sm := Sm.after hal
    replace i8 := i8.below hal
    replace B0 := B0.trans (hal.mono B0.size)
    clear hal
    obtain ⟨g8, hg8⟩ : ∃ x, x = w4.heap.size := ⟨_, rfl⟩
    go_upto_region 4 with (fail)
    generalize (w4.alloc (.cells #[.bool gn8, .slice An8 nn8 cn8, .bool gd8, .slice Ad8 nd8 cd8] 57)) = W5 at *
    rw [← hg8] at S8 ⊢
    clear hg8
    have ⟨Sac0, Sac1, _⟩ := Sa
    have ⟨Smc0, Smc1, _⟩ := Sm
    go_wp2_with fail
    (with_reducible refine (rrat_z ga Aa na ca gm Am nm cm _ ia im Zm Za (by decide) hle hmb.2).mono ?_)
    rintro e w6 ⟨r', hr', ⟨gn10, An10, nn10, cn10, gd10, Ad10, nd10, cd10, q', rfl, i10, b10, hg'⟩ | ⟨rfl, b10, hg'⟩⟩
    clear Sac0 Sac1 Smc0 Smc1
    all_goals obtain rfl := hr.out.eq hr'.out
    case' inr => exact absurd hg.out (hg'.out _ _)
    replace ia := ia.below b10
    replace im := im.below b10
    replace Sa := Sa.after b10
    replace Sm := Sm.after b10
    replace i8 := i8.below b10
    replace S8 := S8.after b10
    replace B0 := B0.trans (b10.mono B0.size)
    clear b10
    have hqq : q = q' := hg.out.sameQ hg'.out (hr.out.lt hle).1
    have hal := (Below.refl w6.heap.size w6).alloc (Nat.le_refl _) (.cells #[.bool gn10, .slice An10 nn10 cn10, .bool gd10, .slice Ad10 nd10 cd10] 57)
    have S10 := Slot4.new w6 (.bool gn10) (.slice An10 nn10 cn10) (.bool gd10) (.slice Ad10 nd10 cd10) 57
    replace ia := ia.below hal
    replace im := im.below hal
    replace Sa := Sa.after hal
    replace Sm := Sm.after hal
    replace i8 := i8.below hal
    replace S8 := S8.after hal
    replace i10 := i10.below hal
    replace B0 := B0.trans (hal.mono B0.size)
    clear hal
    obtain ⟨g10, hg10⟩ : ∃ x, x = w6.heap.size := ⟨_, rfl⟩
    go_upto_region 5 with (fail)
    generalize (w6.alloc (.cells #[.bool gn10, .slice An10 nn10 cn10, .bool gd10, .slice Ad10 nd10 cd10] 57)) = W7 at *
    rw [← hg10] at S10 ⊢
    clear hg10
    have ⟨S8c0, S8c1, S8c2, S8c3, _⟩ := S8
    have ⟨S10c0, S10c1, S10c2, S10c3, _⟩ := S10
    go_wp2_with fail
    (with_reducible refine (rqsame_z gn8 An8 nn8 cn8 gd8 Ad8 nd8 cd8 gn10 An10 nn10 cn10 gd10 Ad10 nd10 cd10 _ i8 i10 hqq).mono ?_)
    rintro e wz ⟨rfl, bz⟩
    replace B0 := B0.trans (bz.mono B0.size)
    go_wp2_with fail
    go_ret
    exact ⟨rfl, B0⟩
  · skip
    replace ia := ia.below b8
    replace im := im.below b8
    replace Sa := Sa.after b8
    replace Sm := Sm.after b8
    replace B0 := B0.trans (b8.mono B0.size)
    clear b8
    have hal := (Below.refl w4.heap.size w4).alloc (Nat.le_refl _) (.cells #[.bool false, .slice none 0 0, .bool false, .slice none 0 0] 57)
    have S8 := Slot4.new w4 (.bool false) (.slice none 0 0) (.bool false) (.slice none 0 0) 57
    replace ia := ia.below hal
    replace im := im.below hal
    replace Sa := Sa.after hal
    replace Sm := Sm.after hal
    replace B0 := B0.trans (hal.mono B0.size)
    clear hal
    obtain ⟨g8, hg8⟩ : ∃ x, x = w4.heap.size := ⟨_, rfl⟩
    go_upto_region 4 with (fail)
    generalize (w4.alloc (.cells #[.bool false, .slice none 0 0, .bool false, .slice none 0 0] 57)) = W5 at *
    rw [← hg8] at S8 ⊢
    clear hg8
    have ⟨Sac0, Sac1, _⟩ := Sa
    have ⟨Smc0, Smc1, _⟩ := Sm
    go_wp2_with fail
    (with_reducible refine (rrat_z ga Aa na ca gm Am nm cm _ ia im Zm Za (by decide) hle hmb.2).mono ?_)
    rintro e w6 ⟨r', hr', ⟨gn10, An10, nn10, cn10, gd10, Ad10, nd10, cd10, q', rfl, i10, b10, hg'⟩ | ⟨rfl, b10, hg'⟩⟩
    clear Sac0 Sac1 Smc0 Smc1
    all_goals obtain rfl := hr.out.eq hr'.out
    case' inl => exact absurd hg'.out (hg.out _ _)
    replace ia := ia.below b10
    replace im := im.below b10
    replace Sa := Sa.after b10
    replace Sm := Sm.after b10
    replace S8 := S8.after b10
    replace B0 := B0.trans (b10.mono B0.size)
    clear b10
    have hal := (Below.refl w6.heap.size w6).alloc (Nat.le_refl _) (.cells #[.bool false, .slice none 0 0, .bool false, .slice none 0 0] 57)
    have S10 := Slot4.new w6 (.bool false) (.slice none 0 0) (.bool false) (.slice none 0 0) 57
    replace ia := ia.below hal
    replace im := im.below hal
    replace Sa := Sa.after hal
    replace Sm := Sm.after hal
    replace S8 := S8.after hal
    replace B0 := B0.trans (hal.mono B0.size)
    clear hal
    go_upto_region 5 with (fail)
    generalize (w6.alloc (.cells #[.bool false, .slice none 0 0, .bool false, .slice none 0 0] 57)) = W7 at *
    have ⟨S8c0, S8c1, S8c2, S8c3, _⟩ := S8
    go_wp2_with fail
    go_ret
    exact ⟨rfl, B0⟩
end Go.Proofs.YtclmenpclkmfeaaDoor
