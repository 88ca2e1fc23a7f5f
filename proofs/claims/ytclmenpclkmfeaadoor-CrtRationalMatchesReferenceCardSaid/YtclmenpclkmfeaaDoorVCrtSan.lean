/- The fixed examples of layer 4. -/
import Derived.Test.YtclmenpclkmfeaaDoorVG29CrtL
namespace Go.Proofs.YtclmenpclkmfeaaDoor
open Go.RowKit Go.Maps
theorem nil_cons {z : Int} : true = true ↔ Cons [] z := ⟨fun _ => ⟨okR_nil, fun k hk => absurd hk (by simp)⟩, fun _ => rfl⟩
theorem cons_32 : true = true ↔ Cons [(3, 2)] (-7) := ⟨fun _ => ⟨okR_one (by decide) pf_3, fun k hk => by
  have hk' : k < 1 := hk
  obtain rfl : k = 0 := by omega
  rfl⟩, fun _ => rfl⟩
theorem cons_31 : false = true ↔ Cons [(3, 1)] (-7) := ⟨(fun h => by cases h), fun h => by
  have := h.2 0 (by simp)
  simp at this⟩
theorem cmb_15 (z : Int) (h : Cmb [(3, 2), (5, 3)] z) : z = -7 := by
  have h1 := h.rg
  have h2 := h.res (3, 2) (by simp)
  have h3 := h.res (5, 3) (by simp)
  simp [prodP] at h1 h2 h3
  omega
theorem cmb_2 (z : Int) (h : Cmb [(2, 1)] z) : z = 1 := by
  have h1 := h.rg
  have h2 := h.res (2, 1) (by simp)
  simp [prodP] at h1 h2
  omega
theorem cmb_0 (z : Int) (h : Cmb [] z) : z = 0 := by
  have h1 := h.rg
  simp [prodP] at h1
  omega
theorem prod_lit {A : Option Addr} (w : World) (h : ResL w A 2 [(3, 0), (5, 9)]) : Calls Tryd.prog 38 #[.slice A 2 2] w (RetInt w 15) := by
  obtain ⟨b, o, rfl, hb, hc⟩ := h.rd (by decide)
  exact prod_2 b o 3 5 w hb (hc 0 (by decide)).1 (hc 1 (by decide)).1 (by decide) (by decide)
def SanC : Prop := ∀ w : World, TabW w → TabN w.heap.size → Calls Tryd.prog 10 #[] w fun e w' => e = .returned (.bool true) ∧ Below w.heap.size w w'
set_option maxRecDepth 1000000 in
set_option maxHeartbeats 16000000 in
theorem sanc_any : SanC := by
  intro w hT h5
  have B := Below.refl w.heap.size w
  go_enter Tryd.func10, Tryd.ntmps10
  have hal := (Below.refl w.heap.size w).alloc (Nat.le_refl _) (.cells #[.int .u64 3, .int .u64 2, .int .u64 5, .int .u64 3] 41)
  have Lx := (show ResL (w.alloc (.cells #[.int .u64 3, .int .u64 2, .int .u64 5, .int .u64 3] 41)) (some ⟨w.heap.size, 0, none⟩) 2 [(3, 2), (5, 3)] from resL_2 w 3 2 5 3 (by decide) (by decide) (by decide) (by decide))
  replace B := B.trans (hal.mono B.size)
  clear hal
  go_wp2_with fail
  (with_reducible refine (comb_ok (some ⟨w.heap.size, 0, none⟩) 2 2 [(3, 2), (5, 3)] (-7) _ Lx (by decide) (hT.below B h5) (h5.le B.size) (okR_two (by decide) pf_3 (by decide) pf_5 (by decide)) (by intro x hx; rcases List.mem_cons.1 hx with rfl | hx; exact prime3; obtain rfl := List.mem_singleton.1 hx; exact prime5) cmb_15).mono ?_)
  rintro e w1 ⟨ga, Aa, na, ca, rfl, ia, ba⟩
  replace Lx := Lx.below ba
  replace B := B.trans (ba.mono B.size)
  clear ba
  clear Lx
  have hal := (Below.refl w1.heap.size w1).alloc (Nat.le_refl _) (.cells #[.bool ga, .slice Aa na ca] 28)
  have Sa := Slot2.new w1 (.bool ga) (.slice Aa na ca) 28
  replace ia := ia.below hal
  replace B := B.trans (hal.mono B.size)
  clear hal
  go_upto_region 2 with (fail)
  generalize hW2 : (w1.alloc (.cells #[.bool ga, .slice Aa na ca] 28)) = W2 at *
  clear hW2
  have hal := (Below.refl W2.heap.size W2).alloc (Nat.le_refl _) (.cells #[.int .u64 2, .int .u64 1] 41)
  have Lx := (show ResL (W2.alloc (.cells #[.int .u64 2, .int .u64 1] 41)) (some ⟨W2.heap.size, 0, none⟩) 1 [(2, 1)] from resL_1 W2 2 1 (by decide) (by decide))
  replace ia := ia.below hal
  replace Sa := Sa.after hal
  replace B := B.trans (hal.mono B.size)
  clear hal
  go_wp2_with fail
  (with_reducible refine (comb_ok (some ⟨W2.heap.size, 0, none⟩) 1 1 [(2, 1)] 1 _ Lx (by decide) (hT.below B h5) (h5.le B.size) (okR_one (by decide) pf_2) (by intro x hx; obtain rfl := List.mem_singleton.1 hx; exact prime2) cmb_2).mono ?_)
  rintro e w3 ⟨gb, Ab, nb, cb, rfl, ib, bb⟩
  replace ia := ia.below bb
  replace Sa := Sa.after bb
  replace Lx := Lx.below bb
  replace B := B.trans (bb.mono B.size)
  clear bb
  clear Lx
  have hal := (Below.refl w3.heap.size w3).alloc (Nat.le_refl _) (.cells #[.bool gb, .slice Ab nb cb] 28)
  have Sb := Slot2.new w3 (.bool gb) (.slice Ab nb cb) 28
  replace ia := ia.below hal
  replace Sa := Sa.after hal
  replace ib := ib.below hal
  replace B := B.trans (hal.mono B.size)
  clear hal
  go_upto_region 3 with (fail)
  generalize hW4 : (w3.alloc (.cells #[.bool gb, .slice Ab nb cb] 28)) = W4 at *
  clear hW4
  go_wp2_with fail
  (with_reducible refine (comb_ok none 0 0 [] 0 _ (resL_nil _) (by decide) (hT.below B h5) (h5.le B.size) okR_nil (fun x hx => absurd hx List.not_mem_nil) cmb_0).mono ?_)
  rintro e w5 ⟨gc, Ac, nc, cc, rfl, ic, bc⟩
  replace ia := ia.below bc
  replace Sa := Sa.after bc
  replace ib := ib.below bc
  replace Sb := Sb.after bc
  replace B := B.trans (bc.mono B.size)
  clear bc
  have hal := (Below.refl w5.heap.size w5).alloc (Nat.le_refl _) (.cells #[.bool gc, .slice Ac nc cc] 28)
  have Sc := Slot2.new w5 (.bool gc) (.slice Ac nc cc) 28
  replace ia := ia.below hal
  replace Sa := Sa.after hal
  replace ib := ib.below hal
  replace Sb := Sb.after hal
  replace ic := ic.below hal
  replace B := B.trans (hal.mono B.size)
  clear hal
  go_upto_region 4 with (fail)
  generalize hW6 : (w5.alloc (.cells #[.bool gc, .slice Ac nc cc] 28)) = W6 at *
  clear hW6
  have hal := (Below.refl W6.heap.size W6).alloc (Nat.le_refl _) (.cells #[.int .u64 4, .int .u64 1] 41)
  have Lx := (show ResL (W6.alloc (.cells #[.int .u64 4, .int .u64 1] 41)) (some ⟨W6.heap.size, 0, none⟩) 1 [(4, 1)] from resL_1 W6 4 1 (by decide) (by decide))
  replace ia := ia.below hal
  replace Sa := Sa.after hal
  replace ib := ib.below hal
  replace Sb := Sb.after hal
  replace ic := ic.below hal
  replace Sc := Sc.after hal
  replace B := B.trans (hal.mono B.size)
  clear hal
  go_wp2_with fail
  (with_reducible refine (comb_bad (some ⟨W6.heap.size, 0, none⟩) 1 1 [(4, 1)] _ Lx (by decide) (hT.below B h5) (h5.le B.size) (not_one (.inr pf_4))).mono ?_)
  rintro e w7 ⟨rfl, bh⟩
  replace ia := ia.below bh
  replace Sa := Sa.after bh
  replace ib := ib.below bh
  replace Sb := Sb.after bh
  replace ic := ic.below bh
  replace Sc := Sc.after bh
  replace Lx := Lx.below bh
  replace B := B.trans (bh.mono B.size)
  clear bh
  clear Lx
  have hal := (Below.refl w7.heap.size w7).alloc (Nat.le_refl _) (.cells #[.bool false, .slice none 0 0] 28)
  replace ia := ia.below hal
  replace Sa := Sa.after hal
  replace ib := ib.below hal
  replace Sb := Sb.after hal
  replace ic := ic.below hal
  replace Sc := Sc.after hal
  replace B := B.trans (hal.mono B.size)
  clear hal
  go_upto_region 5 with (fail)
  generalize hW8 : (w7.alloc (.cells #[.bool false, .slice none 0 0] 28)) = W8 at *
  clear hW8
  have hal := (Below.refl W8.heap.size W8).alloc (Nat.le_refl _) (.cells #[.int .u64 3, .int .u64 3] 41)
  have Lx := (show ResL (W8.alloc (.cells #[.int .u64 3, .int .u64 3] 41)) (some ⟨W8.heap.size, 0, none⟩) 1 [(3, 3)] from resL_1 W8 3 3 (by decide) (by decide))
  replace ia := ia.below hal
  replace Sa := Sa.after hal
  replace ib := ib.below hal
  replace Sb := Sb.after hal
  replace ic := ic.below hal
  replace Sc := Sc.after hal
  replace B := B.trans (hal.mono B.size)
  clear hal
  go_wp2_with fail
  (with_reducible refine (comb_bad (some ⟨W8.heap.size, 0, none⟩) 1 1 [(3, 3)] _ Lx (by decide) (hT.below B h5) (h5.le B.size) (not_one (.inl (by decide)))).mono ?_)
  rintro e w9 ⟨rfl, bi⟩
  replace ia := ia.below bi
  replace Sa := Sa.after bi
  replace ib := ib.below bi
  replace Sb := Sb.after bi
  replace ic := ic.below bi
  replace Sc := Sc.after bi
  replace Lx := Lx.below bi
  replace B := B.trans (bi.mono B.size)
  clear bi
  clear Lx
  have hal := (Below.refl w9.heap.size w9).alloc (Nat.le_refl _) (.cells #[.bool false, .slice none 0 0] 28)
  replace ia := ia.below hal
  replace Sa := Sa.after hal
  replace ib := ib.below hal
  replace Sb := Sb.after hal
  replace ic := ic.below hal
  replace Sc := Sc.after hal
  replace B := B.trans (hal.mono B.size)
  clear hal
  go_upto_region 6 with (fail)
  generalize hW10 : (w9.alloc (.cells #[.bool false, .slice none 0 0] 28)) = W10 at *
  clear hW10
  have hal := (Below.refl W10.heap.size W10).alloc (Nat.le_refl _) (.cells #[.int .u64 3, .int .u64 1, .int .u64 3, .int .u64 1] 41)
  have Lx := (show ResL (W10.alloc (.cells #[.int .u64 3, .int .u64 1, .int .u64 3, .int .u64 1] 41)) (some ⟨W10.heap.size, 0, none⟩) 2 [(3, 1), (3, 1)] from resL_2 W10 3 1 3 1 (by decide) (by decide) (by decide) (by decide))
  replace ia := ia.below hal
  replace Sa := Sa.after hal
  replace ib := ib.below hal
  replace Sb := Sb.after hal
  replace ic := ic.below hal
  replace Sc := Sc.after hal
  replace B := B.trans (hal.mono B.size)
  clear hal
  go_wp2_with fail
  (with_reducible refine (comb_bad (some ⟨W10.heap.size, 0, none⟩) 2 2 [(3, 1), (3, 1)] _ Lx (by decide) (hT.below B h5) (h5.le B.size) not_twice).mono ?_)
  rintro e w11 ⟨rfl, bj⟩
  replace ia := ia.below bj
  replace Sa := Sa.after bj
  replace ib := ib.below bj
  replace Sb := Sb.after bj
  replace ic := ic.below bj
  replace Sc := Sc.after bj
  replace Lx := Lx.below bj
  replace B := B.trans (bj.mono B.size)
  clear bj
  clear Lx
  have hal := (Below.refl w11.heap.size w11).alloc (Nat.le_refl _) (.cells #[.bool false, .slice none 0 0] 28)
  replace ia := ia.below hal
  replace Sa := Sa.after hal
  replace ib := ib.below hal
  replace Sb := Sb.after hal
  replace ic := ic.below hal
  replace Sc := Sc.after hal
  replace B := B.trans (hal.mono B.size)
  clear hal
  go_upto_region 7 with (fail)
  generalize hW12 : (w11.alloc (.cells #[.bool false, .slice none 0 0] 28)) = W12 at *
  clear hW12
  have hal := (Below.refl W12.heap.size W12).alloc (Nat.le_refl _) (.cells #[.int .u64 2147483659, .int .u64 1] 41)
  have Lx := (show ResL (W12.alloc (.cells #[.int .u64 2147483659, .int .u64 1] 41)) (some ⟨W12.heap.size, 0, none⟩) 1 [(2147483659, 1)] from resL_1 W12 2147483659 1 (by decide) (by decide))
  replace ia := ia.below hal
  replace Sa := Sa.after hal
  replace ib := ib.below hal
  replace Sb := Sb.after hal
  replace ic := ic.below hal
  replace Sc := Sc.after hal
  replace B := B.trans (hal.mono B.size)
  clear hal
  go_wp2_with fail
  (with_reducible refine (comb_bad (some ⟨W12.heap.size, 0, none⟩) 1 1 [(2147483659, 1)] _ Lx (by decide) (hT.below B h5) (h5.le B.size) (not_one (.inr pf_big1))).mono ?_)
  rintro e w13 ⟨rfl, bk⟩
  replace ia := ia.below bk
  replace Sa := Sa.after bk
  replace ib := ib.below bk
  replace Sb := Sb.after bk
  replace ic := ic.below bk
  replace Sc := Sc.after bk
  replace Lx := Lx.below bk
  replace B := B.trans (bk.mono B.size)
  clear bk
  clear Lx
  have hal := (Below.refl w13.heap.size w13).alloc (Nat.le_refl _) (.cells #[.bool false, .slice none 0 0] 28)
  replace ia := ia.below hal
  replace Sa := Sa.after hal
  replace ib := ib.below hal
  replace Sb := Sb.after hal
  replace ic := ic.below hal
  replace Sc := Sc.after hal
  replace B := B.trans (hal.mono B.size)
  clear hal
  go_upto_region 8 with (fail)
  generalize hW14 : (w13.alloc (.cells #[.bool false, .slice none 0 0] 28)) = W14 at *
  clear hW14
  go_wp2_with fail
  (with_reducible refine (rof_any (67) _ (by decide) (by decide)).mono ?_)
  rintro e w15 ⟨gp, Ap, np, cp, rfl, ip, bp⟩
  replace ia := ia.below bp
  replace Sa := Sa.after bp
  replace ib := ib.below bp
  replace Sb := Sb.after bp
  replace ic := ic.below bp
  replace Sc := Sc.after bp
  replace B := B.trans (bp.mono B.size)
  clear bp
  go_wp2_with fail
  (with_reducible refine (rof_any (100) _ (by decide) (by decide)).mono ?_)
  rintro e w16 ⟨gq, Aq, nq, cq, rfl, iq, bq⟩
  replace ia := ia.below bq
  replace Sa := Sa.after bq
  replace ib := ib.below bq
  replace Sb := Sb.after bq
  replace ic := ic.below bq
  replace Sc := Sc.after bq
  replace ip := ip.below bq
  replace B := B.trans (bq.mono B.size)
  clear bq
  go_wp2_with fail
  (with_reducible refine (crat_third gp Ap np cp gq Aq nq cq _ ip iq).mono ?_)
  rintro e w17 ⟨gnt, Ant, nnt, cnt, gdt, Adt, ndt, cdt, rfl, it, bt⟩
  replace ia := ia.below bt
  replace Sa := Sa.after bt
  replace ib := ib.below bt
  replace Sb := Sb.after bt
  replace ic := ic.below bt
  replace Sc := Sc.after bt
  replace ip := ip.below bt
  replace iq := iq.below bt
  replace B := B.trans (bt.mono B.size)
  clear bt
  clear ip iq
  have hal := (Below.refl w17.heap.size w17).alloc (Nat.le_refl _) (.cells #[.bool gnt, .slice Ant nnt cnt, .bool gdt, .slice Adt ndt cdt] 57)
  have St := Slot4.new w17 (.bool gnt) (.slice Ant nnt cnt) (.bool gdt) (.slice Adt ndt cdt) 57
  replace ia := ia.below hal
  replace Sa := Sa.after hal
  replace ib := ib.below hal
  replace Sb := Sb.after hal
  replace ic := ic.below hal
  replace Sc := Sc.after hal
  replace it := it.below hal
  replace B := B.trans (hal.mono B.size)
  clear hal
  go_upto_region 9 with (fail)
  generalize hW18 : (w17.alloc (.cells #[.bool gnt, .slice Ant nnt cnt, .bool gdt, .slice Adt ndt cdt] 57)) = W18 at *
  clear hW18
  go_wp2_with fail
  (with_reducible refine (rof_any (50) _ (by decide) (by decide)).mono ?_)
  rintro e w19 ⟨gp, Ap, np, cp, rfl, ip, bp⟩
  replace ia := ia.below bp
  replace Sa := Sa.after bp
  replace ib := ib.below bp
  replace Sb := Sb.after bp
  replace ic := ic.below bp
  replace Sc := Sc.after bp
  replace it := it.below bp
  replace St := St.after bp
  replace B := B.trans (bp.mono B.size)
  clear bp
  go_wp2_with fail
  (with_reducible refine (rof_any (100) _ (by decide) (by decide)).mono ?_)
  rintro e w20 ⟨gq, Aq, nq, cq, rfl, iq, bq⟩
  replace ia := ia.below bq
  replace Sa := Sa.after bq
  replace ib := ib.below bq
  replace Sb := Sb.after bq
  replace ic := ic.below bq
  replace Sc := Sc.after bq
  replace it := it.below bq
  replace St := St.after bq
  replace ip := ip.below bq
  replace B := B.trans (bq.mono B.size)
  clear bq
  go_wp2_with fail
  (with_reducible refine (crat_fifty gp Ap np cp gq Aq nq cq _ ip iq).mono ?_)
  rintro e w21 ⟨rfl, bm⟩
  replace ia := ia.below bm
  replace Sa := Sa.after bm
  replace ib := ib.below bm
  replace Sb := Sb.after bm
  replace ic := ic.below bm
  replace Sc := Sc.after bm
  replace it := it.below bm
  replace St := St.after bm
  replace ip := ip.below bm
  replace iq := iq.below bm
  replace B := B.trans (bm.mono B.size)
  clear bm
  clear ip iq
  have hal := (Below.refl w21.heap.size w21).alloc (Nat.le_refl _) (.cells #[.bool false, .slice none 0 0, .bool false, .slice none 0 0] 57)
  replace ia := ia.below hal
  replace Sa := Sa.after hal
  replace ib := ib.below hal
  replace Sb := Sb.after hal
  replace ic := ic.below hal
  replace Sc := Sc.after hal
  replace it := it.below hal
  replace St := St.after hal
  replace B := B.trans (hal.mono B.size)
  clear hal
  go_upto_region 10 with (fail)
  generalize hW22 : (w21.alloc (.cells #[.bool false, .slice none 0 0, .bool false, .slice none 0 0] 57)) = W22 at *
  clear hW22
  go_wp2_with fail
  (with_reducible refine (rof_any (5) _ (by decide) (by decide)).mono ?_)
  rintro e w23 ⟨gp, Ap, np, cp, rfl, ip, bp⟩
  replace ia := ia.below bp
  replace Sa := Sa.after bp
  replace ib := ib.below bp
  replace Sb := Sb.after bp
  replace ic := ic.below bp
  replace Sc := Sc.after bp
  replace it := it.below bp
  replace St := St.after bp
  replace B := B.trans (bp.mono B.size)
  clear bp
  go_wp2_with fail
  (with_reducible refine (rof_any (1) _ (by decide) (by decide)).mono ?_)
  rintro e w24 ⟨gq, Aq, nq, cq, rfl, iq, bq⟩
  replace ia := ia.below bq
  replace Sa := Sa.after bq
  replace ib := ib.below bq
  replace Sb := Sb.after bq
  replace ic := ic.below bq
  replace Sc := Sc.after bq
  replace it := it.below bq
  replace St := St.after bq
  replace ip := ip.below bq
  replace B := B.trans (bq.mono B.size)
  clear bq
  go_wp2_with fail
  (with_reducible refine (crat_small gp Ap np cp gq Aq nq cq _ ip iq (Sz.of (by decide) (by decide) : Sz 1 5) (Sz.of (by decide) (by decide) : Sz 1 1) (by decide) (by decide)).mono ?_)
  rintro e w25 ⟨rfl, bn⟩
  replace ia := ia.below bn
  replace Sa := Sa.after bn
  replace ib := ib.below bn
  replace Sb := Sb.after bn
  replace ic := ic.below bn
  replace Sc := Sc.after bn
  replace it := it.below bn
  replace St := St.after bn
  replace ip := ip.below bn
  replace iq := iq.below bn
  replace B := B.trans (bn.mono B.size)
  clear bn
  clear ip iq
  have hal := (Below.refl w25.heap.size w25).alloc (Nat.le_refl _) (.cells #[.bool false, .slice none 0 0, .bool false, .slice none 0 0] 57)
  replace ia := ia.below hal
  replace Sa := Sa.after hal
  replace ib := ib.below hal
  replace Sb := Sb.after hal
  replace ic := ic.below hal
  replace Sc := Sc.after hal
  replace it := it.below hal
  replace St := St.after hal
  replace B := B.trans (hal.mono B.size)
  clear hal
  go_upto_region 11 with (fail)
  generalize hW26 : (w25.alloc (.cells #[.bool false, .slice none 0 0, .bool false, .slice none 0 0] 57)) = W26 at *
  clear hW26
  have HS : Hid (∀ V, Below W26.heap.size W26 V → (V.cell? ⟨w1.heap.size, 0, none⟩ = some (.bool ga) ∧ V.cell? ⟨w1.heap.size, 1, none⟩ = some (.slice Aa na ca)) ∧ (V.cell? ⟨w3.heap.size, 0, none⟩ = some (.bool gb) ∧ V.cell? ⟨w3.heap.size, 1, none⟩ = some (.slice Ab nb cb)) ∧ (V.cell? ⟨w5.heap.size, 0, none⟩ = some (.bool gc) ∧ V.cell? ⟨w5.heap.size, 1, none⟩ = some (.slice Ac nc cc))) := fun V hV => ⟨⟨(Sa.after hV).1, (Sa.after hV).2.1⟩, ⟨(Sb.after hV).1, (Sb.after hV).2.1⟩, (Sc.after hV).1, (Sc.after hV).2.1⟩
  have Dx : Below W26.heap.size W26 W26.drew := (Below.refl _ _).drew
  replace ia := ia.below Dx
  replace ib := ib.below Dx
  replace ic := ic.below Dx
  refine wp_region_seq (.pre [(0, true), (1, true), (2, true), (3, true), (4, true), (5, true), (6, true), (7, true), (8, true), (9, true), (10, true), (11, true), (12, false), (13, false), (14, true), (15, true), (16, true), (17, false), (18, false), (19, true), (20, true), (21, true), (22, false), (23, false), (24, true)] (.pre [(25, true)] .done)) (fun W => (W.cell? ⟨w1.heap.size, 0, none⟩ = some (.bool ga) ∧ W.cell? ⟨w1.heap.size, 1, none⟩ = some (.slice Aa na ca)) ∧ (W.cell? ⟨w3.heap.size, 0, none⟩ = some (.bool gb) ∧ W.cell? ⟨w3.heap.size, 1, none⟩ = some (.slice Ab nb cb)) ∧ (W.cell? ⟨w5.heap.size, 0, none⟩ = some (.bool gc) ∧ W.cell? ⟨w5.heap.size, 1, none⟩ = some (.slice Ac nc cc))) (by kernel_rfl) (by kernel_rfl) ?_ (by kernel_rfl) (HS.out _ Dx) ?_
  · refine chk_pre _ _ _ (by as_aux_lemma => kernel_rfl) ?_
    refine chk_pre _ _ _ (by as_aux_lemma => kernel_rfl) ?_
    exact (by as_aux_lemma => kernel_rfl)
  refine seq_take _ ?_ rfl (Or.inl ⟨by rfl, ?_⟩) ?_
  rotate_left
  · (intro w hSw; (try dsimp only at hSw); go_simp; (try with_reducible rfl))
  try simp only [Act.put, List.setIfInBounds_toArray, List.set_cons_zero, List.set_cons_succ]
  refine seq_take _ ?_ rfl (Or.inl ⟨by rfl, ?_⟩) ?_
  rotate_left
  · (intro w hSw; (try dsimp only at hSw); go_simp; (try with_reducible rfl))
  try simp only [Act.put, List.setIfInBounds_toArray, List.set_cons_zero, List.set_cons_succ]
  refine seq_take _ ?_ rfl (Or.inl ⟨by rfl, ?_⟩) ?_
  rotate_left
  · (intro w hSw; (try dsimp only at hSw); go_simp; (try with_reducible rfl))
  try simp only [Act.put, List.setIfInBounds_toArray, List.set_cons_zero, List.set_cons_succ]
  refine seq_take _ ?_ rfl (Or.inl ⟨by rfl, ?_⟩) ?_
  rotate_left
  · (intro w hSw; (try dsimp only at hSw); go_simp; (try with_reducible rfl))
  try simp only [Act.put, List.setIfInBounds_toArray, List.set_cons_zero, List.set_cons_succ]
  refine seq_take _ ?_ rfl (Or.inl ⟨by rfl, ?_⟩) ?_
  rotate_left
  · (intro w hSw; (try dsimp only at hSw); go_simp; (try with_reducible rfl))
  try simp only [Act.put, List.setIfInBounds_toArray, List.set_cons_zero, List.set_cons_succ]
  refine seq_take _ ?_ rfl (Or.inl ⟨by rfl, ?_⟩) ?_
  rotate_left
  · (intro w hSw; (try dsimp only at hSw); go_simp; (try with_reducible rfl))
  try simp only [Act.put, List.setIfInBounds_toArray, List.set_cons_zero, List.set_cons_succ]
  refine seq_take _ ?_ rfl (Or.inl ⟨by rfl, ?_⟩) ?_
  rotate_left
  · (intro w hSw; (try dsimp only at hSw); go_simp; (try with_reducible rfl))
  try simp only [Act.put, List.setIfInBounds_toArray, List.set_cons_zero, List.set_cons_succ]
  refine seq_take _ ?_ rfl (Or.inl ⟨by rfl, ?_⟩) ?_
  rotate_left
  · (intro w hSw; (try dsimp only at hSw); go_simp; (try with_reducible rfl))
  try simp only [Act.put, List.setIfInBounds_toArray, List.set_cons_zero, List.set_cons_succ]
  refine seq_take _ ?_ rfl (Or.inl ⟨by rfl, ?_⟩) ?_
  rotate_left
  · (intro w hSw; (try dsimp only at hSw); go_simp; (try with_reducible rfl))
  try simp only [Act.put, List.setIfInBounds_toArray, List.set_cons_zero, List.set_cons_succ]
  refine seq_take _ ?_ rfl (Or.inl ⟨by rfl, ?_⟩) ?_
  rotate_left
  · (intro w hSw; (try dsimp only at hSw); go_simp; (try with_reducible rfl))
  try simp only [Act.put, List.setIfInBounds_toArray, List.set_cons_zero, List.set_cons_succ]
  refine seq_take _ ?_ rfl (Or.inl ⟨by rfl, ?_⟩) ?_
  rotate_left
  · (intro w hSw; (try dsimp only at hSw); go_simp; (try with_reducible rfl))
  try simp only [Act.put, List.setIfInBounds_toArray, List.set_cons_zero, List.set_cons_succ]
  refine seq_take _ ?_ rfl (Or.inl ⟨by rfl, ?_⟩) ?_
  rotate_left
  · (intro w hSw; (try dsimp only at hSw); go_simp; (try with_reducible rfl))
  try simp only [Act.put, List.setIfInBounds_toArray, List.set_cons_zero, List.set_cons_succ]
  refine seq_one _ rfl fun K hK => ?_
  go_simp
  (with_reducible refine (rof_any (-7) _ (by decide) (by decide)).mono ?_)
  rintro e vx12 ⟨gx12, Ax12, nx12, cx12, rfl, ix12, bx12⟩
  replace Dx : Below W26.heap.size W26 vx12 := Below.trans Dx (bx12.mono (Below.size Dx))
  replace ia := ia.below bx12
  replace ib := ib.below bx12
  replace ic := ic.below bx12
  clear bx12
  go_wp2_with fail
  refine hK.out _ _ (HS.out _ Dx) (fun hHeld => ?_)
  clear hK K hHeld
  try simp only [Act.put, List.setIfInBounds_toArray, List.set_cons_zero, List.set_cons_succ]
  refine seq_one _ rfl fun K hK => ?_
  go_simp
  (with_reducible refine (same_z ga gx12 Aa Ax12 na ca nx12 cx12 _ ia ix12 rfl).mono ?_)
  rintro e vx13 ⟨rfl, bx13⟩
  replace Dx : Below W26.heap.size W26 vx13 := Below.trans Dx (bx13.mono (Below.size Dx))
  replace ia := ia.below bx13
  replace ib := ib.below bx13
  replace ic := ic.below bx13
  replace ix12 := ix12.below bx13
  clear bx13
  go_wp2_with fail
  refine hK.out _ _ (HS.out _ Dx) (fun hHeld => ?_)
  clear hK K hHeld
  try simp only [Act.put, List.setIfInBounds_toArray, List.set_cons_zero, List.set_cons_succ]
  refine seq_take _ ?_ rfl (Or.inl ⟨by rfl, ?_⟩) ?_
  rotate_left
  · (intro w hSw; (try dsimp only at hSw); go_simp; (try with_reducible rfl))
  try simp only [Act.put, List.setIfInBounds_toArray, List.set_cons_zero, List.set_cons_succ]
  refine seq_take _ ?_ rfl (Or.inl ⟨by rfl, ?_⟩) ?_
  rotate_left
  · (intro w hSw; (try dsimp only at hSw); go_simp; (try with_reducible rfl))
  try simp only [Act.put, List.setIfInBounds_toArray, List.set_cons_zero, List.set_cons_succ]
  refine seq_take _ ?_ rfl (Or.inl ⟨by rfl, ?_⟩) ?_
  rotate_left
  · (intro w hSw; (try dsimp only at hSw); go_simp; (try with_reducible rfl))
  try simp only [Act.put, List.setIfInBounds_toArray, List.set_cons_zero, List.set_cons_succ]
  refine seq_one _ rfl fun K hK => ?_
  go_simp
  (with_reducible refine (rof_any 1 _ (by decide) (by decide)).mono ?_)
  rintro e vx17 ⟨gx17, Ax17, nx17, cx17, rfl, ix17, bx17⟩
  replace Dx : Below W26.heap.size W26 vx17 := Below.trans Dx (bx17.mono (Below.size Dx))
  replace ia := ia.below bx17
  replace ib := ib.below bx17
  replace ic := ic.below bx17
  replace ix12 := ix12.below bx17
  clear bx17
  go_wp2_with fail
  refine hK.out _ _ (HS.out _ Dx) (fun hHeld => ?_)
  clear hK K hHeld
  try simp only [Act.put, List.setIfInBounds_toArray, List.set_cons_zero, List.set_cons_succ]
  refine seq_one _ rfl fun K hK => ?_
  go_simp
  (with_reducible refine (same_z gb gx17 Ab Ax17 nb cb nx17 cx17 _ ib ix17 rfl).mono ?_)
  rintro e vx18 ⟨rfl, bx18⟩
  replace Dx : Below W26.heap.size W26 vx18 := Below.trans Dx (bx18.mono (Below.size Dx))
  replace ia := ia.below bx18
  replace ib := ib.below bx18
  replace ic := ic.below bx18
  replace ix12 := ix12.below bx18
  replace ix17 := ix17.below bx18
  clear bx18
  go_wp2_with fail
  refine hK.out _ _ (HS.out _ Dx) (fun hHeld => ?_)
  clear hK K hHeld
  try simp only [Act.put, List.setIfInBounds_toArray, List.set_cons_zero, List.set_cons_succ]
  refine seq_take _ ?_ rfl (Or.inl ⟨by rfl, ?_⟩) ?_
  rotate_left
  · (intro w hSw; (try dsimp only at hSw); go_simp; (try with_reducible rfl))
  try simp only [Act.put, List.setIfInBounds_toArray, List.set_cons_zero, List.set_cons_succ]
  refine seq_take _ ?_ rfl (Or.inl ⟨by rfl, ?_⟩) ?_
  rotate_left
  · (intro w hSw; (try dsimp only at hSw); go_simp; (try with_reducible rfl))
  try simp only [Act.put, List.setIfInBounds_toArray, List.set_cons_zero, List.set_cons_succ]
  refine seq_take _ ?_ rfl (Or.inl ⟨by rfl, ?_⟩) ?_
  rotate_left
  · (intro w hSw; (try dsimp only at hSw); go_simp; (try with_reducible rfl))
  try simp only [Act.put, List.setIfInBounds_toArray, List.set_cons_zero, List.set_cons_succ]
  refine seq_one _ rfl fun K hK => ?_
  go_simp
  (with_reducible refine (rof_any 0 _ (by decide) (by decide)).mono ?_)
  rintro e vx22 ⟨gx22, Ax22, nx22, cx22, rfl, ix22, bx22⟩
  replace Dx : Below W26.heap.size W26 vx22 := Below.trans Dx (bx22.mono (Below.size Dx))
  replace ia := ia.below bx22
  replace ib := ib.below bx22
  replace ic := ic.below bx22
  replace ix12 := ix12.below bx22
  replace ix17 := ix17.below bx22
  clear bx22
  go_wp2_with fail
  refine hK.out _ _ (HS.out _ Dx) (fun hHeld => ?_)
  clear hK K hHeld
  try simp only [Act.put, List.setIfInBounds_toArray, List.set_cons_zero, List.set_cons_succ]
  refine seq_one _ rfl fun K hK => ?_
  go_simp
  (with_reducible refine (same_z gc gx22 Ac Ax22 nc cc nx22 cx22 _ ic ix22 rfl).mono ?_)
  rintro e vx23 ⟨rfl, bx23⟩
  replace Dx : Below W26.heap.size W26 vx23 := Below.trans Dx (bx23.mono (Below.size Dx))
  replace ia := ia.below bx23
  replace ib := ib.below bx23
  replace ic := ic.below bx23
  replace ix12 := ix12.below bx23
  replace ix17 := ix17.below bx23
  replace ix22 := ix22.below bx23
  clear bx23
  go_wp2_with fail
  refine hK.out _ _ (HS.out _ Dx) (fun hHeld => ?_)
  clear hK K hHeld
  try simp only [Act.put, List.setIfInBounds_toArray, List.set_cons_zero, List.set_cons_succ]
  refine seq_take _ ?_ rfl (Or.inl ⟨by rfl, ?_⟩) ?_
  rotate_left
  · (intro w hSw; (try dsimp only at hSw); go_simp; (try with_reducible rfl))
  try simp only [Act.put, List.setIfInBounds_toArray, List.set_cons_zero, List.set_cons_succ]
  refine seq_take _ ?_ rfl (Or.inl ⟨by rfl, ?_⟩) ?_
  rotate_left
  · (intro w hSw; (try dsimp only at hSw); go_simp; (try with_reducible rfl))
  try simp only [Act.put, List.setIfInBounds_toArray, List.set_cons_zero, List.set_cons_succ]
  refine NoPanic.normal ?_
  replace St := St.after Dx
  replace it := it.below Dx
  replace B := B.trans (Dx.mono B.size)
  clear ia ib ic ix12 ix17 ix22 Sa Sb Sc HS Dx
  go_upto_region 13 with (fail)
  have HS : Hid (∀ V, Below vx23.heap.size vx23 V → (V.cell? ⟨w17.heap.size, 0, none⟩ = some (.bool gnt) ∧ V.cell? ⟨w17.heap.size, 1, none⟩ = some (.slice Ant nnt cnt) ∧ V.cell? ⟨w17.heap.size, 2, none⟩ = some (.bool gdt) ∧ V.cell? ⟨w17.heap.size, 3, none⟩ = some (.slice Adt ndt cdt))) := fun V hV => (St.after hV).cells
  have HTT : Hid (∀ V, Below vx23.heap.size vx23 V → TabW V ∧ TabN V.heap.size) := fun V hV => ⟨hT.below (B.trans (hV.mono B.size)) h5, h5.le (B.trans (hV.mono B.size)).size⟩
  have Dy : Below vx23.heap.size vx23 vx23.drew := (Below.refl _ _).drew
  replace it := it.below Dy
  refine wp_region_seq (.pre [(0, true), (1, true), (2, true), (3, true), (4, true), (5, true), (6, true), (7, true), (8, true), (9, true), (10, false), (11, false), (12, true), (13, true), (14, true), (15, true), (16, false), (17, false), (18, false), (19, false), (20, true), (21, true), (22, false), (23, false), (24, false)] (.pre [(25, true), (26, true), (27, true)] (.two 28 (.pre [(29, false), (30, false), (31, true), (32, true), (33, true)] (.two 34 (.pre [(35, false), (36, false), (37, true), (38, true), (39, true), (40, false), (41, false), (42, true), (43, true)] .done) 35 (.pre [(34, false), (36, false), (37, true), (38, true), (39, true), (40, false), (41, false), (42, true), (43, true)] .done))) 29 (.pre [(28, false), (30, false), (31, true), (32, true), (33, true)] (.two 34 (.pre [(35, false), (36, false), (37, true), (38, true), (39, true), (40, false), (41, false), (42, true), (43, true)] .done) 35 (.pre [(34, false), (36, false), (37, true), (38, true), (39, true), (40, false), (41, false), (42, true), (43, true)] .done)))))) (fun W => (W.cell? ⟨w17.heap.size, 0, none⟩ = some (.bool gnt) ∧ W.cell? ⟨w17.heap.size, 1, none⟩ = some (.slice Ant nnt cnt) ∧ W.cell? ⟨w17.heap.size, 2, none⟩ = some (.bool gdt) ∧ W.cell? ⟨w17.heap.size, 3, none⟩ = some (.slice Adt ndt cdt))) (by kernel_rfl) (by kernel_rfl) ?_ (by kernel_rfl) (HS.out _ Dy) ?_
  · refine chk_pre _ _ _ (by as_aux_lemma => kernel_rfl) ?_
    refine chk_pre _ _ _ (by as_aux_lemma => kernel_rfl) ?_
    refine chk_two _ _ _ _ _ (by as_aux_lemma => kernel_rfl) ?_ ?_
    · refine chk_pre _ _ _ (by as_aux_lemma => kernel_rfl) ?_
      refine chk_two _ _ _ _ _ (by as_aux_lemma => kernel_rfl) ?_ ?_
      · refine chk_pre _ _ _ (by as_aux_lemma => kernel_rfl) ?_
        exact (by as_aux_lemma => kernel_rfl)
      · refine chk_pre _ _ _ (by as_aux_lemma => kernel_rfl) ?_
        exact (by as_aux_lemma => kernel_rfl)
    · refine chk_pre _ _ _ (by as_aux_lemma => kernel_rfl) ?_
      refine chk_two _ _ _ _ _ (by as_aux_lemma => kernel_rfl) ?_ ?_
      · refine chk_pre _ _ _ (by as_aux_lemma => kernel_rfl) ?_
        exact (by as_aux_lemma => kernel_rfl)
      · refine chk_pre _ _ _ (by as_aux_lemma => kernel_rfl) ?_
        exact (by as_aux_lemma => kernel_rfl)
  refine seq_take _ ?_ rfl (Or.inl ⟨by rfl, ?_⟩) ?_
  rotate_left
  · (intro w hSw; (try dsimp only at hSw); go_simp; (try with_reducible rfl))
  try simp only [Act.put, List.setIfInBounds_toArray, List.set_cons_zero, List.set_cons_succ]
  refine seq_take _ ?_ rfl (Or.inl ⟨by rfl, ?_⟩) ?_
  rotate_left
  · (intro w hSw; (try dsimp only at hSw); go_simp; (try with_reducible rfl))
  try simp only [Act.put, List.setIfInBounds_toArray, List.set_cons_zero, List.set_cons_succ]
  refine seq_take _ ?_ rfl (Or.inl ⟨by rfl, ?_⟩) ?_
  rotate_left
  · (intro w hSw; (try dsimp only at hSw); go_simp; (try with_reducible rfl))
  try simp only [Act.put, List.setIfInBounds_toArray, List.set_cons_zero, List.set_cons_succ]
  refine seq_take _ ?_ rfl (Or.inl ⟨by rfl, ?_⟩) ?_
  rotate_left
  · (intro w hSw; (try dsimp only at hSw); go_simp; (try with_reducible rfl))
  try simp only [Act.put, List.setIfInBounds_toArray, List.set_cons_zero, List.set_cons_succ]
  refine seq_take _ ?_ rfl (Or.inl ⟨by rfl, ?_⟩) ?_
  rotate_left
  · (intro w hSw; (try dsimp only at hSw); go_simp; (try with_reducible rfl))
  try simp only [Act.put, List.setIfInBounds_toArray, List.set_cons_zero, List.set_cons_succ]
  refine seq_take _ ?_ rfl (Or.inl ⟨by rfl, ?_⟩) ?_
  rotate_left
  · (intro w hSw; (try dsimp only at hSw); go_simp; (try with_reducible rfl))
  try simp only [Act.put, List.setIfInBounds_toArray, List.set_cons_zero, List.set_cons_succ]
  refine seq_take _ ?_ rfl (Or.inl ⟨by rfl, ?_⟩) ?_
  rotate_left
  · (intro w hSw; (try dsimp only at hSw); go_simp; (try with_reducible rfl))
  try simp only [Act.put, List.setIfInBounds_toArray, List.set_cons_zero, List.set_cons_succ]
  refine seq_take _ ?_ rfl (Or.inl ⟨by rfl, ?_⟩) ?_
  rotate_left
  · (intro w hSw; (try dsimp only at hSw); go_simp; (try with_reducible rfl))
  try simp only [Act.put, List.setIfInBounds_toArray, List.set_cons_zero, List.set_cons_succ]
  refine seq_take _ ?_ rfl (Or.inl ⟨by rfl, ?_⟩) ?_
  rotate_left
  · (intro w hSw; (try dsimp only at hSw); go_simp; (try with_reducible rfl))
  try simp only [Act.put, List.setIfInBounds_toArray, List.set_cons_zero, List.set_cons_succ]
  refine seq_take _ ?_ rfl (Or.inl ⟨by rfl, ?_⟩) ?_
  rotate_left
  · (intro w hSw; (try dsimp only at hSw); go_simp; (try with_reducible rfl))
  try simp only [Act.put, List.setIfInBounds_toArray, List.set_cons_zero, List.set_cons_succ]
  refine seq_one _ rfl fun K hK => ?_
  go_simp
  (with_reducible refine (lrat_z 1 3 _ (by decide) (by decide) (by decide)).mono ?_)
  rintro e vy10 ⟨gny10, Any10, nny10, cny10, gdy10, Ady10, ndy10, cdy10, rfl, iy10, by10⟩
  replace Dy : Below vx23.heap.size vx23 vy10 := Below.trans Dy (by10.mono (Below.size Dy))
  replace it := it.below by10
  clear by10
  go_wp2_with fail
  refine hK.out _ _ (HS.out _ Dy) (fun hHeld => ?_)
  clear hK K hHeld
  try simp only [Act.put, List.setIfInBounds_toArray, List.set_cons_zero, List.set_cons_succ]
  refine seq_one _ rfl fun K hK => ?_
  go_simp
  (with_reducible refine (rqsame_z gnt Ant nnt cnt gdt Adt ndt cdt gny10 Any10 nny10 cny10 gdy10 Ady10 ndy10 cdy10 _ it iy10 rfl).mono ?_)
  rintro e vy11 ⟨rfl, by11⟩
  replace Dy : Below vx23.heap.size vx23 vy11 := Below.trans Dy (by11.mono (Below.size Dy))
  replace it := it.below by11
  replace iy10 := iy10.below by11
  clear by11
  go_wp2_with fail
  refine hK.out _ _ (HS.out _ Dy) (fun hHeld => ?_)
  clear hK K hHeld
  try simp only [Act.put, List.setIfInBounds_toArray, List.set_cons_zero, List.set_cons_succ]
  refine seq_take _ ?_ rfl (Or.inl ⟨by rfl, ?_⟩) ?_
  rotate_left
  · (intro w hSw; (try dsimp only at hSw); go_simp; (try with_reducible rfl))
  try simp only [Act.put, List.setIfInBounds_toArray, List.set_cons_zero, List.set_cons_succ]
  refine seq_take _ ?_ rfl (Or.inl ⟨by rfl, ?_⟩) ?_
  rotate_left
  · (intro w hSw; (try dsimp only at hSw); go_simp; (try with_reducible rfl))
  try simp only [Act.put, List.setIfInBounds_toArray, List.set_cons_zero, List.set_cons_succ]
  refine seq_take _ ?_ rfl (Or.inl ⟨by rfl, ?_⟩) ?_
  rotate_left
  · (intro w hSw; (try dsimp only at hSw); go_simp; (try with_reducible rfl))
  try simp only [Act.put, List.setIfInBounds_toArray, List.set_cons_zero, List.set_cons_succ]
  refine seq_take _ ?_ rfl (Or.inl ⟨by rfl, ?_⟩) ?_
  rotate_left
  · (intro w hSw; (try dsimp only at hSw); go_simp; (try with_reducible rfl))
  try simp only [Act.put, List.setIfInBounds_toArray, List.set_cons_zero, List.set_cons_succ]
  refine seq_one _ rfl fun K hK => ?_
  go_simp
  have ay := (Below.refl vy11.heap.size vy11).alloc (Nat.le_refl _) (.cells #[.int .u64 3, .int .u64 0, .int .u64 5, .int .u64 9] 41)
  replace Dy := Below.trans Dy (ay.mono (Below.size Dy))
  replace it := it.below ay
  replace iy10 := iy10.below ay
  clear ay
  have Ly16 := (show ResL (vy11.alloc (.cells #[.int .u64 3, .int .u64 0, .int .u64 5, .int .u64 9] 41)) (some ⟨vy11.heap.size, 0, none⟩) 2 [(3, 0), (5, 9)] from resL_2 vy11 3 0 5 9 (by decide) (by decide) (by decide) (by decide))
  refine hK.out _ _ (HS.out _ Dy) (fun hHeld => ?_)
  clear hK K hHeld
  try simp only [Act.put, List.setIfInBounds_toArray, List.set_cons_zero, List.set_cons_succ]
  refine seq_one _ rfl fun K hK => ?_
  go_simp
  (with_reducible refine (prod_lit _ Ly16).mono ?_)
  rintro e vy17 ⟨gy17, Ay17, ny17, cy17, rfl, iy17, by17⟩
  replace Dy : Below vx23.heap.size vx23 vy17 := Below.trans Dy (by17.mono (Below.size Dy))
  replace it := it.below by17
  replace iy10 := iy10.below by17
  replace Ly16 := Ly16.below by17
  clear by17
  go_wp2_with fail
  refine hK.out _ _ (HS.out _ Dy) (fun hHeld => ?_)
  clear hK K hHeld
  try simp only [Act.put, List.setIfInBounds_toArray, List.set_cons_zero, List.set_cons_succ]
  refine seq_one _ rfl fun K hK => ?_
  go_simp
  (with_reducible refine (rof_any 15 _ (by decide) (by decide)).mono ?_)
  rintro e vy18 ⟨gy18, Ay18, ny18, cy18, rfl, iy18, by18⟩
  replace Dy : Below vx23.heap.size vx23 vy18 := Below.trans Dy (by18.mono (Below.size Dy))
  replace it := it.below by18
  replace iy10 := iy10.below by18
  replace Ly16 := Ly16.below by18
  replace iy17 := iy17.below by18
  clear by18
  go_wp2_with fail
  refine hK.out _ _ (HS.out _ Dy) (fun hHeld => ?_)
  clear hK K hHeld
  try simp only [Act.put, List.setIfInBounds_toArray, List.set_cons_zero, List.set_cons_succ]
  refine seq_one _ rfl fun K hK => ?_
  go_simp
  (with_reducible refine (same_z gy17 gy18 Ay17 Ay18 ny17 cy17 ny18 cy18 _ iy17 iy18 rfl).mono ?_)
  rintro e vy19 ⟨rfl, by19⟩
  replace Dy : Below vx23.heap.size vx23 vy19 := Below.trans Dy (by19.mono (Below.size Dy))
  replace it := it.below by19
  replace iy10 := iy10.below by19
  replace Ly16 := Ly16.below by19
  replace iy17 := iy17.below by19
  replace iy18 := iy18.below by19
  clear by19
  go_wp2_with fail
  refine hK.out _ _ (HS.out _ Dy) (fun hHeld => ?_)
  clear hK K hHeld
  try simp only [Act.put, List.setIfInBounds_toArray, List.set_cons_zero, List.set_cons_succ]
  refine seq_take _ ?_ rfl (Or.inl ⟨by rfl, ?_⟩) ?_
  rotate_left
  · (intro w hSw; (try dsimp only at hSw); go_simp; (try with_reducible rfl))
  try simp only [Act.put, List.setIfInBounds_toArray, List.set_cons_zero, List.set_cons_succ]
  refine seq_take _ ?_ rfl (Or.inl ⟨by rfl, ?_⟩) ?_
  rotate_left
  · (intro w hSw; (try dsimp only at hSw); go_simp; (try with_reducible rfl))
  try simp only [Act.put, List.setIfInBounds_toArray, List.set_cons_zero, List.set_cons_succ]
  refine seq_one _ rfl fun K hK => ?_
  go_simp
  (with_reducible refine (prod_0 0 _).mono ?_)
  rintro e vy22 ⟨gy22, Ay22, ny22, cy22, rfl, iy22, by22⟩
  replace Dy : Below vx23.heap.size vx23 vy22 := Below.trans Dy (by22.mono (Below.size Dy))
  replace it := it.below by22
  replace iy10 := iy10.below by22
  replace Ly16 := Ly16.below by22
  replace iy17 := iy17.below by22
  replace iy18 := iy18.below by22
  clear by22
  go_wp2_with fail
  refine hK.out _ _ (HS.out _ Dy) (fun hHeld => ?_)
  clear hK K hHeld
  try simp only [Act.put, List.setIfInBounds_toArray, List.set_cons_zero, List.set_cons_succ]
  refine seq_one _ rfl fun K hK => ?_
  go_simp
  (with_reducible refine (rof_any 1 _ (by decide) (by decide)).mono ?_)
  rintro e vy23 ⟨gy23, Ay23, ny23, cy23, rfl, iy23, by23⟩
  replace Dy : Below vx23.heap.size vx23 vy23 := Below.trans Dy (by23.mono (Below.size Dy))
  replace it := it.below by23
  replace iy10 := iy10.below by23
  replace Ly16 := Ly16.below by23
  replace iy17 := iy17.below by23
  replace iy18 := iy18.below by23
  replace iy22 := iy22.below by23
  clear by23
  go_wp2_with fail
  refine hK.out _ _ (HS.out _ Dy) (fun hHeld => ?_)
  clear hK K hHeld
  try simp only [Act.put, List.setIfInBounds_toArray, List.set_cons_zero, List.set_cons_succ]
  refine seq_one _ rfl fun K hK => ?_
  go_simp
  (with_reducible refine (same_z gy22 gy23 Ay22 Ay23 ny22 cy22 ny23 cy23 _ iy22 iy23 rfl).mono ?_)
  rintro e vy24 ⟨rfl, by24⟩
  replace Dy : Below vx23.heap.size vx23 vy24 := Below.trans Dy (by24.mono (Below.size Dy))
  replace it := it.below by24
  replace iy10 := iy10.below by24
  replace Ly16 := Ly16.below by24
  replace iy17 := iy17.below by24
  replace iy18 := iy18.below by24
  replace iy22 := iy22.below by24
  replace iy23 := iy23.below by24
  clear by24
  go_wp2_with fail
  refine hK.out _ _ (HS.out _ Dy) (fun hHeld => ?_)
  clear hK K hHeld
  try simp only [Act.put, List.setIfInBounds_toArray, List.set_cons_zero, List.set_cons_succ]
  refine seq_take _ ?_ rfl (Or.inl ⟨by rfl, ?_⟩) ?_
  rotate_left
  · (intro w hSw; (try dsimp only at hSw); go_simp; (try with_reducible rfl))
  try simp only [Act.put, List.setIfInBounds_toArray, List.set_cons_zero, List.set_cons_succ]
  refine seq_take _ ?_ rfl (Or.inl ⟨by rfl, ?_⟩) ?_
  rotate_left
  · (intro w hSw; (try dsimp only at hSw); go_simp; (try with_reducible rfl))
  try simp only [Act.put, List.setIfInBounds_toArray, List.set_cons_zero, List.set_cons_succ]
  refine seq_take _ ?_ rfl (Or.inl ⟨by rfl, ?_⟩) ?_
  rotate_left
  · (intro w hSw; (try dsimp only at hSw); go_simp; (try with_reducible rfl))
  try simp only [Act.put, List.setIfInBounds_toArray, List.set_cons_zero, List.set_cons_succ]
  refine seq_two ?_ ?_
  · skip
    refine seq_one _ rfl fun K hK => ?_
    go_simp
    have ay := (Below.refl vy24.heap.size vy24).alloc (Nat.le_refl _) (.cells #[.int .u64 3, .int .u64 2] 41)
    replace Dy := Below.trans Dy (ay.mono (Below.size Dy))
    replace it := it.below ay
    replace iy10 := iy10.below ay
    replace Ly16 := Ly16.below ay
    replace iy17 := iy17.below ay
    replace iy18 := iy18.below ay
    replace iy22 := iy22.below ay
    replace iy23 := iy23.below ay
    clear ay
    have Ly28 := (show ResL (vy24.alloc (.cells #[.int .u64 3, .int .u64 2] 41)) (some ⟨vy24.heap.size, 0, none⟩) 1 [(3, 2)] from resL_1 vy24 3 2 (by decide) (by decide))
    refine hK.out _ _ (HS.out _ Dy) (fun hHeld => ?_)
    clear hK K hHeld
    try simp only [Act.put, List.setIfInBounds_toArray, List.set_cons_zero, List.set_cons_succ]
    refine seq_one _ rfl fun K hK => ?_
    go_simp
    (with_reducible refine (rof_any (-7) _ (by decide) (by decide)).mono ?_)
    rintro e vy29 ⟨gy29, Ay29, ny29, cy29, rfl, iy29, by29⟩
    replace Dy : Below vx23.heap.size vx23 vy29 := Below.trans Dy (by29.mono (Below.size Dy))
    replace it := it.below by29
    replace iy10 := iy10.below by29
    replace Ly16 := Ly16.below by29
    replace iy17 := iy17.below by29
    replace iy18 := iy18.below by29
    replace iy22 := iy22.below by29
    replace iy23 := iy23.below by29
    replace Ly28 := Ly28.below by29
    clear by29
    go_wp2_with fail
    refine hK.out _ _ (HS.out _ Dy) (fun hHeld => ?_)
    clear hK K hHeld
    try simp only [Act.put, List.setIfInBounds_toArray, List.set_cons_zero, List.set_cons_succ]
    refine seq_one _ rfl fun K hK => ?_
    go_simp
    (with_reducible refine (cons_b _ 1 1 [(3, 2)] gy29 Ay29 ny29 cy29 true _ Ly28 iy29 (by decide) (HTT.out _ Dy).1 (HTT.out _ Dy).2 cons_32).mono ?_)
    rintro e vy30 ⟨rfl, by30⟩
    replace Dy : Below vx23.heap.size vx23 vy30 := Below.trans Dy (by30.mono (Below.size Dy))
    replace it := it.below by30
    replace iy10 := iy10.below by30
    replace Ly16 := Ly16.below by30
    replace iy17 := iy17.below by30
    replace iy18 := iy18.below by30
    replace iy22 := iy22.below by30
    replace iy23 := iy23.below by30
    replace Ly28 := Ly28.below by30
    replace iy29 := iy29.below by30
    clear by30
    go_wp2_with fail
    refine hK.out _ _ (HS.out _ Dy) (fun hHeld => ?_)
    clear hK K hHeld
    try simp only [Act.put, List.setIfInBounds_toArray, List.set_cons_zero, List.set_cons_succ]
    refine seq_take _ ?_ rfl (Or.inl ⟨by rfl, ?_⟩) ?_
    rotate_left
    · (intro w hSw; (try dsimp only at hSw); go_simp; (try with_reducible rfl))
    try simp only [Act.put, List.setIfInBounds_toArray, List.set_cons_zero, List.set_cons_succ]
    refine seq_take _ ?_ rfl (Or.inl ⟨by rfl, ?_⟩) ?_
    rotate_left
    · (intro w hSw; (try dsimp only at hSw); go_simp; (try with_reducible rfl))
    try simp only [Act.put, List.setIfInBounds_toArray, List.set_cons_zero, List.set_cons_succ]
    refine seq_take _ ?_ rfl (Or.inl ⟨by rfl, ?_⟩) ?_
    rotate_left
    · (intro w hSw; (try dsimp only at hSw); go_simp; (try with_reducible rfl))
    try simp only [Act.put, List.setIfInBounds_toArray, List.set_cons_zero, List.set_cons_succ]
    refine seq_two ?_ ?_
    · skip
      refine seq_one _ rfl fun K hK => ?_
      go_simp
      have ay := (Below.refl vy30.heap.size vy30).alloc (Nat.le_refl _) (.cells #[.int .u64 3, .int .u64 1] 41)
      replace Dy := Below.trans Dy (ay.mono (Below.size Dy))
      replace it := it.below ay
      replace iy10 := iy10.below ay
      replace Ly16 := Ly16.below ay
      replace iy17 := iy17.below ay
      replace iy18 := iy18.below ay
      replace iy22 := iy22.below ay
      replace iy23 := iy23.below ay
      replace Ly28 := Ly28.below ay
      replace iy29 := iy29.below ay
      clear ay
      have Ly34 := (show ResL (vy30.alloc (.cells #[.int .u64 3, .int .u64 1] 41)) (some ⟨vy30.heap.size, 0, none⟩) 1 [(3, 1)] from resL_1 vy30 3 1 (by decide) (by decide))
      refine hK.out _ _ (HS.out _ Dy) (fun hHeld => ?_)
      clear hK K hHeld
      try simp only [Act.put, List.setIfInBounds_toArray, List.set_cons_zero, List.set_cons_succ]
      refine seq_one _ rfl fun K hK => ?_
      go_simp
      (with_reducible refine (rof_any (-7) _ (by decide) (by decide)).mono ?_)
      rintro e vy35 ⟨gy35, Ay35, ny35, cy35, rfl, iy35, by35⟩
      replace Dy : Below vx23.heap.size vx23 vy35 := Below.trans Dy (by35.mono (Below.size Dy))
      replace it := it.below by35
      replace iy10 := iy10.below by35
      replace Ly16 := Ly16.below by35
      replace iy17 := iy17.below by35
      replace iy18 := iy18.below by35
      replace iy22 := iy22.below by35
      replace iy23 := iy23.below by35
      replace Ly28 := Ly28.below by35
      replace iy29 := iy29.below by35
      replace Ly34 := Ly34.below by35
      clear by35
      go_wp2_with fail
      refine hK.out _ _ (HS.out _ Dy) (fun hHeld => ?_)
      clear hK K hHeld
      try simp only [Act.put, List.setIfInBounds_toArray, List.set_cons_zero, List.set_cons_succ]
      refine seq_one _ rfl fun K hK => ?_
      go_simp
      (with_reducible refine (cons_b _ 1 1 [(3, 1)] gy35 Ay35 ny35 cy35 false _ Ly34 iy35 (by decide) (HTT.out _ Dy).1 (HTT.out _ Dy).2 cons_31).mono ?_)
      rintro e vy36 ⟨rfl, by36⟩
      replace Dy : Below vx23.heap.size vx23 vy36 := Below.trans Dy (by36.mono (Below.size Dy))
      replace it := it.below by36
      replace iy10 := iy10.below by36
      replace Ly16 := Ly16.below by36
      replace iy17 := iy17.below by36
      replace iy18 := iy18.below by36
      replace iy22 := iy22.below by36
      replace iy23 := iy23.below by36
      replace Ly28 := Ly28.below by36
      replace iy29 := iy29.below by36
      replace Ly34 := Ly34.below by36
      replace iy35 := iy35.below by36
      clear by36
      go_wp2_with fail
      refine hK.out _ _ (HS.out _ Dy) (fun hHeld => ?_)
      clear hK K hHeld
      try simp only [Act.put, List.setIfInBounds_toArray, List.set_cons_zero, List.set_cons_succ]
      refine seq_take _ ?_ rfl (Or.inl ⟨by rfl, ?_⟩) ?_
      rotate_left
      · (intro w hSw; (try dsimp only at hSw); go_simp; (try with_reducible rfl))
      try simp only [Act.put, List.setIfInBounds_toArray, List.set_cons_zero, List.set_cons_succ]
      refine seq_take _ ?_ rfl (Or.inl ⟨by rfl, ?_⟩) ?_
      rotate_left
      · (intro w hSw; (try dsimp only at hSw); go_simp; (try with_reducible rfl))
      try simp only [Act.put, List.setIfInBounds_toArray, List.set_cons_zero, List.set_cons_succ]
      refine seq_take _ ?_ rfl (Or.inl ⟨by rfl, ?_⟩) ?_
      rotate_left
      · (intro w hSw; (try dsimp only at hSw); go_simp; (try with_reducible rfl))
      try simp only [Act.put, List.setIfInBounds_toArray, List.set_cons_zero, List.set_cons_succ]
      refine seq_one _ rfl fun K hK => ?_
      go_simp
      (with_reducible refine (rof_any 5 _ (by decide) (by decide)).mono ?_)
      rintro e vy40 ⟨gy40, Ay40, ny40, cy40, rfl, iy40, by40⟩
      replace Dy : Below vx23.heap.size vx23 vy40 := Below.trans Dy (by40.mono (Below.size Dy))
      replace it := it.below by40
      replace iy10 := iy10.below by40
      replace Ly16 := Ly16.below by40
      replace iy17 := iy17.below by40
      replace iy18 := iy18.below by40
      replace iy22 := iy22.below by40
      replace iy23 := iy23.below by40
      replace Ly28 := Ly28.below by40
      replace iy29 := iy29.below by40
      replace Ly34 := Ly34.below by40
      replace iy35 := iy35.below by40
      clear by40
      go_wp2_with fail
      refine hK.out _ _ (HS.out _ Dy) (fun hHeld => ?_)
      clear hK K hHeld
      try simp only [Act.put, List.setIfInBounds_toArray, List.set_cons_zero, List.set_cons_succ]
      refine seq_one _ rfl fun K hK => ?_
      go_simp
      (with_reducible refine (cons_b none 0 0 [] gy40 Ay40 ny40 cy40 true _ (resL_nil _) iy40 (by decide) (HTT.out _ Dy).1 (HTT.out _ Dy).2 nil_cons).mono ?_)
      rintro e vy41 ⟨rfl, by41⟩
      replace Dy : Below vx23.heap.size vx23 vy41 := Below.trans Dy (by41.mono (Below.size Dy))
      replace it := it.below by41
      replace iy10 := iy10.below by41
      replace Ly16 := Ly16.below by41
      replace iy17 := iy17.below by41
      replace iy18 := iy18.below by41
      replace iy22 := iy22.below by41
      replace iy23 := iy23.below by41
      replace Ly28 := Ly28.below by41
      replace iy29 := iy29.below by41
      replace Ly34 := Ly34.below by41
      replace iy35 := iy35.below by41
      replace iy40 := iy40.below by41
      clear by41
      go_wp2_with fail
      refine hK.out _ _ (HS.out _ Dy) (fun hHeld => ?_)
      clear hK K hHeld
      try simp only [Act.put, List.setIfInBounds_toArray, List.set_cons_zero, List.set_cons_succ]
      refine seq_take _ ?_ rfl (Or.inl ⟨by rfl, ?_⟩) ?_
      rotate_left
      · (intro w hSw; (try dsimp only at hSw); go_simp; (try with_reducible rfl))
      try simp only [Act.put, List.setIfInBounds_toArray, List.set_cons_zero, List.set_cons_succ]
      refine seq_take _ ?_ rfl (Or.inl ⟨by rfl, ?_⟩) ?_
      rotate_left
      · (intro w hSw; (try dsimp only at hSw); go_simp; (try with_reducible rfl))
      try simp only [Act.put, List.setIfInBounds_toArray, List.set_cons_zero]
      refine NoPanic.normal ?_
      go_wp2
      go_ret
      exact ⟨rfl, B.trans (Dy.mono B.size)⟩
    · skip
      refine seq_one _ rfl fun K hK => ?_
      go_simp
      (with_reducible refine (rof_any (-7) _ (by decide) (by decide)).mono ?_)
      rintro e vy35 ⟨gy35, Ay35, ny35, cy35, rfl, iy35, by35⟩
      replace Dy : Below vx23.heap.size vx23 vy35 := Below.trans Dy (by35.mono (Below.size Dy))
      replace it := it.below by35
      replace iy10 := iy10.below by35
      replace Ly16 := Ly16.below by35
      replace iy17 := iy17.below by35
      replace iy18 := iy18.below by35
      replace iy22 := iy22.below by35
      replace iy23 := iy23.below by35
      replace Ly28 := Ly28.below by35
      replace iy29 := iy29.below by35
      clear by35
      go_wp2_with fail
      refine hK.out _ _ (HS.out _ Dy) (fun hHeld => ?_)
      clear hK K hHeld
      try simp only [Act.put, List.setIfInBounds_toArray, List.set_cons_zero, List.set_cons_succ]
      refine seq_one _ rfl fun K hK => ?_
      go_simp
      have ay := (Below.refl vy35.heap.size vy35).alloc (Nat.le_refl _) (.cells #[.int .u64 3, .int .u64 1] 41)
      replace Dy := Below.trans Dy (ay.mono (Below.size Dy))
      replace it := it.below ay
      replace iy10 := iy10.below ay
      replace Ly16 := Ly16.below ay
      replace iy17 := iy17.below ay
      replace iy18 := iy18.below ay
      replace iy22 := iy22.below ay
      replace iy23 := iy23.below ay
      replace Ly28 := Ly28.below ay
      replace iy29 := iy29.below ay
      replace iy35 := iy35.below ay
      clear ay
      have Ly34 := (show ResL (vy35.alloc (.cells #[.int .u64 3, .int .u64 1] 41)) (some ⟨vy35.heap.size, 0, none⟩) 1 [(3, 1)] from resL_1 vy35 3 1 (by decide) (by decide))
      refine hK.out _ _ (HS.out _ Dy) (fun hHeld => ?_)
      clear hK K hHeld
      try simp only [Act.put, List.setIfInBounds_toArray, List.set_cons_zero, List.set_cons_succ]
      refine seq_one _ rfl fun K hK => ?_
      go_simp
      (with_reducible refine (cons_b _ 1 1 [(3, 1)] gy35 Ay35 ny35 cy35 false _ Ly34 iy35 (by decide) (HTT.out _ Dy).1 (HTT.out _ Dy).2 cons_31).mono ?_)
      rintro e vy36 ⟨rfl, by36⟩
      replace Dy : Below vx23.heap.size vx23 vy36 := Below.trans Dy (by36.mono (Below.size Dy))
      replace it := it.below by36
      replace iy10 := iy10.below by36
      replace Ly16 := Ly16.below by36
      replace iy17 := iy17.below by36
      replace iy18 := iy18.below by36
      replace iy22 := iy22.below by36
      replace iy23 := iy23.below by36
      replace Ly28 := Ly28.below by36
      replace iy29 := iy29.below by36
      replace iy35 := iy35.below by36
      replace Ly34 := Ly34.below by36
      clear by36
      go_wp2_with fail
      refine hK.out _ _ (HS.out _ Dy) (fun hHeld => ?_)
      clear hK K hHeld
      try simp only [Act.put, List.setIfInBounds_toArray, List.set_cons_zero, List.set_cons_succ]
      refine seq_take _ ?_ rfl (Or.inl ⟨by rfl, ?_⟩) ?_
      rotate_left
      · (intro w hSw; (try dsimp only at hSw); go_simp; (try with_reducible rfl))
      try simp only [Act.put, List.setIfInBounds_toArray, List.set_cons_zero, List.set_cons_succ]
      refine seq_take _ ?_ rfl (Or.inl ⟨by rfl, ?_⟩) ?_
      rotate_left
      · (intro w hSw; (try dsimp only at hSw); go_simp; (try with_reducible rfl))
      try simp only [Act.put, List.setIfInBounds_toArray, List.set_cons_zero, List.set_cons_succ]
      refine seq_take _ ?_ rfl (Or.inl ⟨by rfl, ?_⟩) ?_
      rotate_left
      · (intro w hSw; (try dsimp only at hSw); go_simp; (try with_reducible rfl))
      try simp only [Act.put, List.setIfInBounds_toArray, List.set_cons_zero, List.set_cons_succ]
      refine seq_one _ rfl fun K hK => ?_
      go_simp
      (with_reducible refine (rof_any 5 _ (by decide) (by decide)).mono ?_)
      rintro e vy40 ⟨gy40, Ay40, ny40, cy40, rfl, iy40, by40⟩
      replace Dy : Below vx23.heap.size vx23 vy40 := Below.trans Dy (by40.mono (Below.size Dy))
      replace it := it.below by40
      replace iy10 := iy10.below by40
      replace Ly16 := Ly16.below by40
      replace iy17 := iy17.below by40
      replace iy18 := iy18.below by40
      replace iy22 := iy22.below by40
      replace iy23 := iy23.below by40
      replace Ly28 := Ly28.below by40
      replace iy29 := iy29.below by40
      replace iy35 := iy35.below by40
      replace Ly34 := Ly34.below by40
      clear by40
      go_wp2_with fail
      refine hK.out _ _ (HS.out _ Dy) (fun hHeld => ?_)
      clear hK K hHeld
      try simp only [Act.put, List.setIfInBounds_toArray, List.set_cons_zero, List.set_cons_succ]
      refine seq_one _ rfl fun K hK => ?_
      go_simp
      (with_reducible refine (cons_b none 0 0 [] gy40 Ay40 ny40 cy40 true _ (resL_nil _) iy40 (by decide) (HTT.out _ Dy).1 (HTT.out _ Dy).2 nil_cons).mono ?_)
      rintro e vy41 ⟨rfl, by41⟩
      replace Dy : Below vx23.heap.size vx23 vy41 := Below.trans Dy (by41.mono (Below.size Dy))
      replace it := it.below by41
      replace iy10 := iy10.below by41
      replace Ly16 := Ly16.below by41
      replace iy17 := iy17.below by41
      replace iy18 := iy18.below by41
      replace iy22 := iy22.below by41
      replace iy23 := iy23.below by41
      replace Ly28 := Ly28.below by41
      replace iy29 := iy29.below by41
      replace iy35 := iy35.below by41
      replace Ly34 := Ly34.below by41
      replace iy40 := iy40.below by41
      clear by41
      go_wp2_with fail
      refine hK.out _ _ (HS.out _ Dy) (fun hHeld => ?_)
      clear hK K hHeld
      try simp only [Act.put, List.setIfInBounds_toArray, List.set_cons_zero, List.set_cons_succ]
      refine seq_take _ ?_ rfl (Or.inl ⟨by rfl, ?_⟩) ?_
      rotate_left
      · (intro w hSw; (try dsimp only at hSw); go_simp; (try with_reducible rfl))
      try simp only [Act.put, List.setIfInBounds_toArray, List.set_cons_zero, List.set_cons_succ]
      refine seq_take _ ?_ rfl (Or.inl ⟨by rfl, ?_⟩) ?_
      rotate_left
      · (intro w hSw; (try dsimp only at hSw); go_simp; (try with_reducible rfl))
      try simp only [Act.put, List.setIfInBounds_toArray, List.set_cons_zero]
      refine NoPanic.normal ?_
      go_wp2
      go_ret
      exact ⟨rfl, B.trans (Dy.mono B.size)⟩
  · skip
    refine seq_one _ rfl fun K hK => ?_
    go_simp
    (with_reducible refine (rof_any (-7) _ (by decide) (by decide)).mono ?_)
    rintro e vy29 ⟨gy29, Ay29, ny29, cy29, rfl, iy29, by29⟩
    replace Dy : Below vx23.heap.size vx23 vy29 := Below.trans Dy (by29.mono (Below.size Dy))
    replace it := it.below by29
    replace iy10 := iy10.below by29
    replace Ly16 := Ly16.below by29
    replace iy17 := iy17.below by29
    replace iy18 := iy18.below by29
    replace iy22 := iy22.below by29
    replace iy23 := iy23.below by29
    clear by29
    go_wp2_with fail
    refine hK.out _ _ (HS.out _ Dy) (fun hHeld => ?_)
    clear hK K hHeld
    try simp only [Act.put, List.setIfInBounds_toArray, List.set_cons_zero, List.set_cons_succ]
    refine seq_one _ rfl fun K hK => ?_
    go_simp
    have ay := (Below.refl vy29.heap.size vy29).alloc (Nat.le_refl _) (.cells #[.int .u64 3, .int .u64 2] 41)
    replace Dy := Below.trans Dy (ay.mono (Below.size Dy))
    replace it := it.below ay
    replace iy10 := iy10.below ay
    replace Ly16 := Ly16.below ay
    replace iy17 := iy17.below ay
    replace iy18 := iy18.below ay
    replace iy22 := iy22.below ay
    replace iy23 := iy23.below ay
    replace iy29 := iy29.below ay
    clear ay
    have Ly28 := (show ResL (vy29.alloc (.cells #[.int .u64 3, .int .u64 2] 41)) (some ⟨vy29.heap.size, 0, none⟩) 1 [(3, 2)] from resL_1 vy29 3 2 (by decide) (by decide))
    refine hK.out _ _ (HS.out _ Dy) (fun hHeld => ?_)
    clear hK K hHeld
    try simp only [Act.put, List.setIfInBounds_toArray, List.set_cons_zero, List.set_cons_succ]
    refine seq_one _ rfl fun K hK => ?_
    go_simp
    (with_reducible refine (cons_b _ 1 1 [(3, 2)] gy29 Ay29 ny29 cy29 true _ Ly28 iy29 (by decide) (HTT.out _ Dy).1 (HTT.out _ Dy).2 cons_32).mono ?_)
    rintro e vy30 ⟨rfl, by30⟩
    replace Dy : Below vx23.heap.size vx23 vy30 := Below.trans Dy (by30.mono (Below.size Dy))
    replace it := it.below by30
    replace iy10 := iy10.below by30
    replace Ly16 := Ly16.below by30
    replace iy17 := iy17.below by30
    replace iy18 := iy18.below by30
    replace iy22 := iy22.below by30
    replace iy23 := iy23.below by30
    replace iy29 := iy29.below by30
    replace Ly28 := Ly28.below by30
    clear by30
    go_wp2_with fail
    refine hK.out _ _ (HS.out _ Dy) (fun hHeld => ?_)
    clear hK K hHeld
    try simp only [Act.put, List.setIfInBounds_toArray, List.set_cons_zero, List.set_cons_succ]
    refine seq_take _ ?_ rfl (Or.inl ⟨by rfl, ?_⟩) ?_
    rotate_left
    · (intro w hSw; (try dsimp only at hSw); go_simp; (try with_reducible rfl))
    try simp only [Act.put, List.setIfInBounds_toArray, List.set_cons_zero, List.set_cons_succ]
    refine seq_take _ ?_ rfl (Or.inl ⟨by rfl, ?_⟩) ?_
    rotate_left
    · (intro w hSw; (try dsimp only at hSw); go_simp; (try with_reducible rfl))
    try simp only [Act.put, List.setIfInBounds_toArray, List.set_cons_zero, List.set_cons_succ]
    refine seq_take _ ?_ rfl (Or.inl ⟨by rfl, ?_⟩) ?_
    rotate_left
    · (intro w hSw; (try dsimp only at hSw); go_simp; (try with_reducible rfl))
    try simp only [Act.put, List.setIfInBounds_toArray, List.set_cons_zero, List.set_cons_succ]
    refine seq_two ?_ ?_
    · skip
      refine seq_one _ rfl fun K hK => ?_
      go_simp
      have ay := (Below.refl vy30.heap.size vy30).alloc (Nat.le_refl _) (.cells #[.int .u64 3, .int .u64 1] 41)
      replace Dy := Below.trans Dy (ay.mono (Below.size Dy))
      replace it := it.below ay
      replace iy10 := iy10.below ay
      replace Ly16 := Ly16.below ay
      replace iy17 := iy17.below ay
      replace iy18 := iy18.below ay
      replace iy22 := iy22.below ay
      replace iy23 := iy23.below ay
      replace iy29 := iy29.below ay
      replace Ly28 := Ly28.below ay
      clear ay
      have Ly34 := (show ResL (vy30.alloc (.cells #[.int .u64 3, .int .u64 1] 41)) (some ⟨vy30.heap.size, 0, none⟩) 1 [(3, 1)] from resL_1 vy30 3 1 (by decide) (by decide))
      refine hK.out _ _ (HS.out _ Dy) (fun hHeld => ?_)
      clear hK K hHeld
      try simp only [Act.put, List.setIfInBounds_toArray, List.set_cons_zero, List.set_cons_succ]
      refine seq_one _ rfl fun K hK => ?_
      go_simp
      (with_reducible refine (rof_any (-7) _ (by decide) (by decide)).mono ?_)
      rintro e vy35 ⟨gy35, Ay35, ny35, cy35, rfl, iy35, by35⟩
      replace Dy : Below vx23.heap.size vx23 vy35 := Below.trans Dy (by35.mono (Below.size Dy))
      replace it := it.below by35
      replace iy10 := iy10.below by35
      replace Ly16 := Ly16.below by35
      replace iy17 := iy17.below by35
      replace iy18 := iy18.below by35
      replace iy22 := iy22.below by35
      replace iy23 := iy23.below by35
      replace iy29 := iy29.below by35
      replace Ly28 := Ly28.below by35
      replace Ly34 := Ly34.below by35
      clear by35
      go_wp2_with fail
      refine hK.out _ _ (HS.out _ Dy) (fun hHeld => ?_)
      clear hK K hHeld
      try simp only [Act.put, List.setIfInBounds_toArray, List.set_cons_zero, List.set_cons_succ]
      refine seq_one _ rfl fun K hK => ?_
      go_simp
      (with_reducible refine (cons_b _ 1 1 [(3, 1)] gy35 Ay35 ny35 cy35 false _ Ly34 iy35 (by decide) (HTT.out _ Dy).1 (HTT.out _ Dy).2 cons_31).mono ?_)
      rintro e vy36 ⟨rfl, by36⟩
      replace Dy : Below vx23.heap.size vx23 vy36 := Below.trans Dy (by36.mono (Below.size Dy))
      replace it := it.below by36
      replace iy10 := iy10.below by36
      replace Ly16 := Ly16.below by36
      replace iy17 := iy17.below by36
      replace iy18 := iy18.below by36
      replace iy22 := iy22.below by36
      replace iy23 := iy23.below by36
      replace iy29 := iy29.below by36
      replace Ly28 := Ly28.below by36
      replace Ly34 := Ly34.below by36
      replace iy35 := iy35.below by36
      clear by36
      go_wp2_with fail
      refine hK.out _ _ (HS.out _ Dy) (fun hHeld => ?_)
      clear hK K hHeld
      try simp only [Act.put, List.setIfInBounds_toArray, List.set_cons_zero, List.set_cons_succ]
      refine seq_take _ ?_ rfl (Or.inl ⟨by rfl, ?_⟩) ?_
      rotate_left
      · (intro w hSw; (try dsimp only at hSw); go_simp; (try with_reducible rfl))
      try simp only [Act.put, List.setIfInBounds_toArray, List.set_cons_zero, List.set_cons_succ]
      refine seq_take _ ?_ rfl (Or.inl ⟨by rfl, ?_⟩) ?_
      rotate_left
      · (intro w hSw; (try dsimp only at hSw); go_simp; (try with_reducible rfl))
      try simp only [Act.put, List.setIfInBounds_toArray, List.set_cons_zero, List.set_cons_succ]
      refine seq_take _ ?_ rfl (Or.inl ⟨by rfl, ?_⟩) ?_
      rotate_left
      · (intro w hSw; (try dsimp only at hSw); go_simp; (try with_reducible rfl))
      try simp only [Act.put, List.setIfInBounds_toArray, List.set_cons_zero, List.set_cons_succ]
      refine seq_one _ rfl fun K hK => ?_
      go_simp
      (with_reducible refine (rof_any 5 _ (by decide) (by decide)).mono ?_)
      rintro e vy40 ⟨gy40, Ay40, ny40, cy40, rfl, iy40, by40⟩
      replace Dy : Below vx23.heap.size vx23 vy40 := Below.trans Dy (by40.mono (Below.size Dy))
      replace it := it.below by40
      replace iy10 := iy10.below by40
      replace Ly16 := Ly16.below by40
      replace iy17 := iy17.below by40
      replace iy18 := iy18.below by40
      replace iy22 := iy22.below by40
      replace iy23 := iy23.below by40
      replace iy29 := iy29.below by40
      replace Ly28 := Ly28.below by40
      replace Ly34 := Ly34.below by40
      replace iy35 := iy35.below by40
      clear by40
      go_wp2_with fail
      refine hK.out _ _ (HS.out _ Dy) (fun hHeld => ?_)
      clear hK K hHeld
      try simp only [Act.put, List.setIfInBounds_toArray, List.set_cons_zero, List.set_cons_succ]
      refine seq_one _ rfl fun K hK => ?_
      go_simp
      (with_reducible refine (cons_b none 0 0 [] gy40 Ay40 ny40 cy40 true _ (resL_nil _) iy40 (by decide) (HTT.out _ Dy).1 (HTT.out _ Dy).2 nil_cons).mono ?_)
      rintro e vy41 ⟨rfl, by41⟩
      replace Dy : Below vx23.heap.size vx23 vy41 := Below.trans Dy (by41.mono (Below.size Dy))
      replace it := it.below by41
      replace iy10 := iy10.below by41
      replace Ly16 := Ly16.below by41
      replace iy17 := iy17.below by41
      replace iy18 := iy18.below by41
      replace iy22 := iy22.below by41
      replace iy23 := iy23.below by41
      replace iy29 := iy29.below by41
      replace Ly28 := Ly28.below by41
      replace Ly34 := Ly34.below by41
      replace iy35 := iy35.below by41
      replace iy40 := iy40.below by41
      clear by41
      go_wp2_with fail
      refine hK.out _ _ (HS.out _ Dy) (fun hHeld => ?_)
      clear hK K hHeld
      try simp only [Act.put, List.setIfInBounds_toArray, List.set_cons_zero, List.set_cons_succ]
      refine seq_take _ ?_ rfl (Or.inl ⟨by rfl, ?_⟩) ?_
      rotate_left
      · (intro w hSw; (try dsimp only at hSw); go_simp; (try with_reducible rfl))
      try simp only [Act.put, List.setIfInBounds_toArray, List.set_cons_zero, List.set_cons_succ]
      refine seq_take _ ?_ rfl (Or.inl ⟨by rfl, ?_⟩) ?_
      rotate_left
      · (intro w hSw; (try dsimp only at hSw); go_simp; (try with_reducible rfl))
      try simp only [Act.put, List.setIfInBounds_toArray, List.set_cons_zero]
      refine NoPanic.normal ?_
      go_wp2
      go_ret
      exact ⟨rfl, B.trans (Dy.mono B.size)⟩
    · skip
      refine seq_one _ rfl fun K hK => ?_
      go_simp
      (with_reducible refine (rof_any (-7) _ (by decide) (by decide)).mono ?_)
      rintro e vy35 ⟨gy35, Ay35, ny35, cy35, rfl, iy35, by35⟩
      replace Dy : Below vx23.heap.size vx23 vy35 := Below.trans Dy (by35.mono (Below.size Dy))
      replace it := it.below by35
      replace iy10 := iy10.below by35
      replace Ly16 := Ly16.below by35
      replace iy17 := iy17.below by35
      replace iy18 := iy18.below by35
      replace iy22 := iy22.below by35
      replace iy23 := iy23.below by35
      replace iy29 := iy29.below by35
      replace Ly28 := Ly28.below by35
      clear by35
      go_wp2_with fail
      refine hK.out _ _ (HS.out _ Dy) (fun hHeld => ?_)
      clear hK K hHeld
      try simp only [Act.put, List.setIfInBounds_toArray, List.set_cons_zero, List.set_cons_succ]
      refine seq_one _ rfl fun K hK => ?_
      go_simp
      have ay := (Below.refl vy35.heap.size vy35).alloc (Nat.le_refl _) (.cells #[.int .u64 3, .int .u64 1] 41)
      replace Dy := Below.trans Dy (ay.mono (Below.size Dy))
      replace it := it.below ay
      replace iy10 := iy10.below ay
      replace Ly16 := Ly16.below ay
      replace iy17 := iy17.below ay
      replace iy18 := iy18.below ay
      replace iy22 := iy22.below ay
      replace iy23 := iy23.below ay
      replace iy29 := iy29.below ay
      replace Ly28 := Ly28.below ay
      replace iy35 := iy35.below ay
      clear ay
      have Ly34 := (show ResL (vy35.alloc (.cells #[.int .u64 3, .int .u64 1] 41)) (some ⟨vy35.heap.size, 0, none⟩) 1 [(3, 1)] from resL_1 vy35 3 1 (by decide) (by decide))
      refine hK.out _ _ (HS.out _ Dy) (fun hHeld => ?_)
      clear hK K hHeld
      try simp only [Act.put, List.setIfInBounds_toArray, List.set_cons_zero, List.set_cons_succ]
      refine seq_one _ rfl fun K hK => ?_
      go_simp
      (with_reducible refine (cons_b _ 1 1 [(3, 1)] gy35 Ay35 ny35 cy35 false _ Ly34 iy35 (by decide) (HTT.out _ Dy).1 (HTT.out _ Dy).2 cons_31).mono ?_)
      rintro e vy36 ⟨rfl, by36⟩
      replace Dy : Below vx23.heap.size vx23 vy36 := Below.trans Dy (by36.mono (Below.size Dy))
      replace it := it.below by36
      replace iy10 := iy10.below by36
      replace Ly16 := Ly16.below by36
      replace iy17 := iy17.below by36
      replace iy18 := iy18.below by36
      replace iy22 := iy22.below by36
      replace iy23 := iy23.below by36
      replace iy29 := iy29.below by36
      replace Ly28 := Ly28.below by36
      replace iy35 := iy35.below by36
      replace Ly34 := Ly34.below by36
      clear by36
      go_wp2_with fail
      refine hK.out _ _ (HS.out _ Dy) (fun hHeld => ?_)
      clear hK K hHeld
      try simp only [Act.put, List.setIfInBounds_toArray, List.set_cons_zero, List.set_cons_succ]
      refine seq_take _ ?_ rfl (Or.inl ⟨by rfl, ?_⟩) ?_
      rotate_left
      · (intro w hSw; (try dsimp only at hSw); go_simp; (try with_reducible rfl))
      try simp only [Act.put, List.setIfInBounds_toArray, List.set_cons_zero, List.set_cons_succ]
      refine seq_take _ ?_ rfl (Or.inl ⟨by rfl, ?_⟩) ?_
      rotate_left
      · (intro w hSw; (try dsimp only at hSw); go_simp; (try with_reducible rfl))
      try simp only [Act.put, List.setIfInBounds_toArray, List.set_cons_zero, List.set_cons_succ]
      refine seq_take _ ?_ rfl (Or.inl ⟨by rfl, ?_⟩) ?_
      rotate_left
      · (intro w hSw; (try dsimp only at hSw); go_simp; (try with_reducible rfl))
      try simp only [Act.put, List.setIfInBounds_toArray, List.set_cons_zero, List.set_cons_succ]
      refine seq_one _ rfl fun K hK => ?_
      go_simp
      (with_reducible refine (rof_any 5 _ (by decide) (by decide)).mono ?_)
      rintro e vy40 ⟨gy40, Ay40, ny40, cy40, rfl, iy40, by40⟩
      replace Dy : Below vx23.heap.size vx23 vy40 := Below.trans Dy (by40.mono (Below.size Dy))
      replace it := it.below by40
      replace iy10 := iy10.below by40
      replace Ly16 := Ly16.below by40
      replace iy17 := iy17.below by40
      replace iy18 := iy18.below by40
      replace iy22 := iy22.below by40
      replace iy23 := iy23.below by40
      replace iy29 := iy29.below by40
      replace Ly28 := Ly28.below by40
      replace iy35 := iy35.below by40
      replace Ly34 := Ly34.below by40
      clear by40
      go_wp2_with fail
      refine hK.out _ _ (HS.out _ Dy) (fun hHeld => ?_)
      clear hK K hHeld
      try simp only [Act.put, List.setIfInBounds_toArray, List.set_cons_zero, List.set_cons_succ]
      refine seq_one _ rfl fun K hK => ?_
      go_simp
      (with_reducible refine (cons_b none 0 0 [] gy40 Ay40 ny40 cy40 true _ (resL_nil _) iy40 (by decide) (HTT.out _ Dy).1 (HTT.out _ Dy).2 nil_cons).mono ?_)
      rintro e vy41 ⟨rfl, by41⟩
      replace Dy : Below vx23.heap.size vx23 vy41 := Below.trans Dy (by41.mono (Below.size Dy))
      replace it := it.below by41
      replace iy10 := iy10.below by41
      replace Ly16 := Ly16.below by41
      replace iy17 := iy17.below by41
      replace iy18 := iy18.below by41
      replace iy22 := iy22.below by41
      replace iy23 := iy23.below by41
      replace iy29 := iy29.below by41
      replace Ly28 := Ly28.below by41
      replace iy35 := iy35.below by41
      replace Ly34 := Ly34.below by41
      replace iy40 := iy40.below by41
      clear by41
      go_wp2_with fail
      refine hK.out _ _ (HS.out _ Dy) (fun hHeld => ?_)
      clear hK K hHeld
      try simp only [Act.put, List.setIfInBounds_toArray, List.set_cons_zero, List.set_cons_succ]
      refine seq_take _ ?_ rfl (Or.inl ⟨by rfl, ?_⟩) ?_
      rotate_left
      · (intro w hSw; (try dsimp only at hSw); go_simp; (try with_reducible rfl))
      try simp only [Act.put, List.setIfInBounds_toArray, List.set_cons_zero, List.set_cons_succ]
      refine seq_take _ ?_ rfl (Or.inl ⟨by rfl, ?_⟩) ?_
      rotate_left
      · (intro w hSw; (try dsimp only at hSw); go_simp; (try with_reducible rfl))
      try simp only [Act.put, List.setIfInBounds_toArray, List.set_cons_zero]
      refine NoPanic.normal ?_
      go_wp2
      go_ret
      exact ⟨rfl, B.trans (Dy.mono B.size)⟩
end Go.Proofs.YtclmenpclkmfeaaDoor
