/- The walk of the law CrtOrders, given what its fixed examples return. -/
import Derived.Test.YtclmenpclkmfeaaDoorVCrtO
namespace Go.Proofs.YtclmenpclkmfeaaDoor
open Go.RowKit Go.Maps
set_option maxRecDepth 1000000 in
set_option maxHeartbeats 8000000 in
theorem law_cord (HSan : SanC) (A0 : Option Addr) (n0 c0 : Nat) (m : Nat) (w : World) (ha : RawsL w A0 n0) (hm : m < 256) (hT : TabW w) (h5 : TabN w.heap.size) :
    Calls Tryd.prog 4 #[.slice A0 n0 c0, .int .u8 (m : Int)] w fun e w' => e = .returned (.bool true) ∧ Below w.heap.size w w' := by
  have HSn := Lib.hid (HSan w hT h5)
  have B := Below.refl w.heap.size w
  clear HSan
  go_enter Tryd.func4, Tryd.ntmps4
  go_wp2_with fail
  (with_reducible refine HSn.out.mono ?_)
  rintro e w1 ⟨rfl, b1⟩
  replace B := B.trans (b1.mono B.size)
  have HM : Hid (Calls Tryd.prog 11 #[.slice A0 n0 c0, .int .i64 10] w1 (RetMd w1 10)) := rmade_z A0 n0 c0 10 w1 (ha.below b1) (by decide)
  clear HSn b1 ha
  go_wp2_with fail
  (with_reducible refine HM.out.mono ?_)
  rintro e w2 ⟨g, n, c, L, rfl, O, hn, b2, hL⟩
  replace B := B.trans (b2.mono B.size)
  have hok := hL.out.1
  have hpr := hL.out.2
  have hln : L.length = n := (O.resL (hok.lt2 hpr)).len
  have hgl : g < w2.heap.size := (World.ownsRow.lt O g rfl).2
  have T0 := OwnR.empty w2 w2.heap.size (Nat.le_refl _)
  have a2 := (Below.refl w2.heap.size w2).alloc (Nat.le_refl _) (.cells #[] 41)
  have O2 := O.keep a2
  have hcap : n ≤ c := by
    rcases O.2 with ⟨e, _⟩ | ⟨_, cap, _, e, _, _, hc, _⟩
    · cases e
    · cases e; exact hc
  have hcap2 : c ≤ 9223372036854775807 := by
    rcases O.2 with ⟨e, _⟩ | ⟨_, cap, _, e, _, _, _, hc, _⟩
    · cases e
    · cases e; unfold maxLen at hc; omega
  have hwm : IntKind.i64.wrap (m : Int) = (m : Int) := by rw [IntKind.wrap_i64]; omega
  have HOK := Lib.hid hok
  have HPR := Lib.hid hpr
  have HO := Lib.hid O
  clear HM b2 hok hpr
  go_wp2_with fail
  go_loopw [7, 8] (fun s7 s8 wr => ∃ k gt ct : Nat, s7 = .slice (some ⟨gt, 0, none⟩) k ct ∧ s8 = .int .i64 (k : Int) ∧ k ≤ n ∧ OwnR wr w2.heap.size (.slice (some ⟨gt, 0, none⟩) k ct) k (turn L m k) ∧ OwnR wr w1.heap.size (.slice (some ⟨g, 0, none⟩) n c) n L ∧ Below w2.heap.size w2 wr) (fun _ s8 _ => n - (intOf s8).toNat)
  case atStart => exact ⟨0, w2.heap.size, 0, rfl, rfl, Nat.zero_le _, T0, O2, a2⟩
  case round =>
    clear T0 O2 a2
    obtain ⟨k, gt, ct, rfl, rfl, hk, T, O2, D⟩ := hrel
    rcases Nat.lt_or_ge k n with hkn | hkn
    · obtain ⟨j, hj⟩ : ∃ j, (k + m) % L.length = j := ⟨_, rfl⟩
      have hjn : j < n := by rw [← hj, hln]; exact Nat.mod_lt _ (by omega)
      have htm : ((k : Int) + (m : Int)).tmod (n : Int) = (j : Int) := by
        rw [Int.tmod_eq_emod_of_nonneg (by omega), ← hj, hln, Int.natCast_emod, Int.natCast_add]
      have hn0 : ((n : Int) == 0) = false := by simp; omega
      have hrd := O2.resL (HOK.out.lt2 HPR.out)
      obtain ⟨p, hp⟩ : ∃ p, (L.getD j (0, 0)).1 = p := ⟨_, rfl⟩
      obtain ⟨v, hv⟩ : ∃ v, (L.getD j (0, 0)).2 = v := ⟨_, rfl⟩
      obtain ⟨b, q0, hA, _, hc⟩ := hrd.rd (by omega)
      cases hA
      obtain ⟨d0, d1⟩ := hc j hjn
      rw [hp, Nat.zero_add] at d0
      rw [hv, Nat.zero_add] at d1
      have HTn : Hid (turn L m (k + 1) = turn L m k ++ [(p, v)]) := by
        show _ = _
        rw [turn_succ, hj, ← hp, ← hv]
      have hgt := (World.ownsRow.lt T gt rfl).1
      have hDs := D.size
      clear hc hrd hp hv hj
      go_wp2_with (at_builtin; refine wpList_append_r _ rfl (.tmp 26) (.tmp 37) rfl w2.heap.size gt k ct (turn L m k) rfl (T.keep ((Below.refl _ _).alloc (Nat.le_refl _) _)) wr.heap.size wr.heap.size 1 1 [(p, v)] rfl (OwnR.one wr wr.heap.size p v (Nat.le_refl _)) (by omega) (by simp; omega) ?_; intro g3 c3 w7 O7 hg7)
      have a7 := (Below.refl wr.heap.size wr).alloc (Nat.le_refl _) (.cells #[.int .u64 (p : Int), .int .u64 (v : Int)] 41)
      have O8 := (O2.keep a7).stays hg7 (by omega)
      have D8 := (D.trans (a7.mono D.size)).grown hg7 (by simp; omega) (fun j hj => by cases hj; exact hgt)
      clear O2 D a7 T
      go_roundw
      case rel => exact ⟨k + 1, g3, c3, rfl, by go_num, by omega, by rw [HTn.out]; exact O7, O8, D8⟩
      case measure => simp [intOf]; omega
    · obtain rfl : k = n := by omega
      replace B := B.trans (D.mono B.size)
      rw [← hln] at T
      have TK := HOK.out.turn m
      have TP := HPR.out.turn m
      have Ttl := turn_len L m L.length
      have T' : OwnR wr w2.heap.size (.slice (some ⟨gt, 0, none⟩) k ct) k (turn L m L.length) := by rw [hln]; rw [hln] at T; exact T
      have hok := HOK.out
      have hpr := HPR.out
      obtain ⟨s, hs⟩ : ∃ s, m % (k + 1) = s := ⟨_, rfl⟩
      have hsk : s ≤ k := by rw [← hs]; have := Nat.mod_lt m (show 0 < k + 1 by omega); omega
      have htm : (m : Int).tmod ((k : Int) + 1) = (s : Int) := by
        rw [Int.tmod_eq_emod_of_nonneg (by omega), ← hs, Int.natCast_emod]; rfl
      have hn0 : ((k : Int) + 1 == 0) = false := by simp; omega
      have hsc : s ≤ c := by omega
      have hsL : (L.take s).length = s := by rw [List.length_take]; omega
      clear D T hs HO hgl
      go_wp2_with fail
      (with_reducible refine (comb_pr (some ⟨g, 0, none⟩) k c L _ (O2.resL (hok.lt2 hpr)) (by omega) (hT.below B h5) (h5.le B.size) hok hpr).mono ?_)
      rintro e w1 ⟨ga, Aa, na, ca, za, rfl, ia, ba, hza⟩
      replace O2 := O2.keep ba
      replace T' := T'.keep ba
      replace B := B.trans (ba.mono B.size)
      clear ba
      have hal := (Below.refl w1.heap.size w1).alloc (Nat.le_refl _) (.cells #[.bool ga, .slice Aa na ca] 28)
      have Sa := Slot2.new w1 (.bool ga) (.slice Aa na ca) 28
      replace O2 := O2.keep hal
      replace T' := T'.keep hal
      replace ia := ia.below hal
      replace B := B.trans (hal.mono B.size)
      clear hal
      go_upto_region 8 with (fail)
      generalize (w1.alloc (.cells #[.bool ga, .slice Aa na ca] 28)) = W2 at *
      go_wp2_with fail
      (with_reducible refine (comb_pr (some ⟨gt, 0, none⟩) k ct (turn L m L.length) _ (T'.resL (TK.lt2 TP)) (by omega) (hT.below B h5) (h5.le B.size) TK TP).mono ?_)
      rintro e w3 ⟨gb, Ab, nb, cb, zb, rfl, ib, bb, hzb⟩
      replace O2 := O2.keep bb
      replace T' := T'.keep bb
      replace ia := ia.below bb
      replace Sa := Sa.after bb
      replace B := B.trans (bb.mono B.size)
      clear bb
      clear T'
      have hal := (Below.refl w3.heap.size w3).alloc (Nat.le_refl _) (.cells #[.bool gb, .slice Ab nb cb] 28)
      have Sb := Slot2.new w3 (.bool gb) (.slice Ab nb cb) 28
      replace O2 := O2.keep hal
      replace ia := ia.below hal
      replace Sa := Sa.after hal
      replace ib := ib.below hal
      replace B := B.trans (hal.mono B.size)
      clear hal
      go_upto_region 9 with (fail)
      generalize (w3.alloc (.cells #[.bool gb, .slice Ab nb cb] 28)) = W4 at *
      go_wp2_with fail
      (with_reducible refine (comb_pr (some ⟨g, 0, none⟩) s c (L.take s) _ ((O2.resL (hok.lt2 hpr)).take hsk) (by omega) (hT.below B h5) (h5.le B.size) (hok.take s) (hpr.take s)).mono ?_)
      rintro e w5 ⟨gc, Ac, nc, cc, zc, rfl, ic, bc, hzc⟩
      replace O2 := O2.keep bc
      replace ia := ia.below bc
      replace Sa := Sa.after bc
      replace ib := ib.below bc
      replace Sb := Sb.after bc
      replace B := B.trans (bc.mono B.size)
      clear bc
      have hal := (Below.refl w5.heap.size w5).alloc (Nat.le_refl _) (.cells #[.bool gc, .slice Ac nc cc] 28)
      have Sc := Slot2.new w5 (.bool gc) (.slice Ac nc cc) 28
      replace O2 := O2.keep hal
      replace ia := ia.below hal
      replace Sa := Sa.after hal
      replace ib := ib.below hal
      replace Sb := Sb.after hal
      replace ic := ic.below hal
      replace B := B.trans (hal.mono B.size)
      clear hal
      go_upto_region 11 with (fail)
      generalize (w5.alloc (.cells #[.bool gc, .slice Ac nc cc] 28)) = W6 at *
      have ⟨Scc0, Scc1, _⟩ := Sc
      go_wp2_with fail
      (with_reducible refine (rvalid_z gc Ac nc cc _ ic).mono ?_)
      rintro e w7 ⟨rfl, bv⟩
      clear Scc0 Scc1
      replace O2 := O2.keep bv
      replace ia := ia.below bv
      replace Sa := Sa.after bv
      replace ib := ib.below bv
      replace Sb := Sb.after bv
      replace ic := ic.below bv
      replace Sc := Sc.after bv
      replace B := B.trans (bv.mono B.size)
      clear bv
      have hsame := hza.out.same hzb.out (hok.cops hpr) (TK.cops TP) (fun x hx => mem_turn hx) (fun x hx => by
        rcases Nat.eq_zero_or_pos L.length with h0 | h0
        · rw [h0] at hx; cases hx
        · exact turn_mem h0 x hx)
      have HC1 := Lib.hid ((hza.out.cons hok).take s)
      have HC2 := Lib.hid (hzc.out.cons (hok.take s))
      have hsz := (hzc.out.sz (hpr.take s) (by omega)).1
      rw [hsL] at hsz
      have ⟨Sac0, Sac1, _⟩ := Sa
      have ⟨Sbc0, Sbc1, _⟩ := Sb
      go_wp2_with fail
      (with_reducible refine (same_z ga gb Aa Ab na ca nb cb _ ia ib hsame).mono ?_)
      rintro e w8 ⟨rfl, bs⟩
      clear Sac0 Sac1 Sbc0 Sbc1
      replace O2 := O2.keep bs
      replace ia := ia.below bs
      replace Sa := Sa.after bs
      replace ib := ib.below bs
      replace Sb := Sb.after bs
      replace ic := ic.below bs
      replace Sc := Sc.after bs
      replace B := B.trans (bs.mono B.size)
      clear bs
      have ⟨Sac0, Sac1, _⟩ := Sa
      go_wp2_with fail
      (with_reducible refine (cons_b (some ⟨g, 0, none⟩) s c (L.take s) ga Aa na ca true _ ((O2.resL (hok.lt2 hpr)).take hsk) ia (by omega) (hT.below B h5) (h5.le B.size) ⟨fun _ => HC1.out, fun _ => rfl⟩).mono ?_)
      rintro e w9 ⟨rfl, bt⟩
      clear Sac0 Sac1
      replace O2 := O2.keep bt
      replace ia := ia.below bt
      replace Sa := Sa.after bt
      replace ib := ib.below bt
      replace Sb := Sb.after bt
      replace ic := ic.below bt
      replace Sc := Sc.after bt
      replace B := B.trans (bt.mono B.size)
      clear bt
      have ⟨Scc0, Scc1, _⟩ := Sc
      go_wp2_with fail
      (with_reducible refine (rcons_t (some ⟨g, 0, none⟩) s c (L.take s) gc Ac nc cc true _ ((O2.resL (hok.lt2 hpr)).take hsk) ic (by omega) (hpr.take s) (hok.take s) hsz (by omega) ⟨fun _ => HC2.out, fun _ => rfl⟩).mono ?_)
      rintro e w10 ⟨rfl, bu⟩
      clear Scc0 Scc1
      replace O2 := O2.keep bu
      replace ia := ia.below bu
      replace Sa := Sa.after bu
      replace ib := ib.below bu
      replace Sb := Sb.after bu
      replace ic := ic.below bu
      replace Sc := Sc.after bu
      replace B := B.trans (bu.mono B.size)
      clear bu
      go_wp2_with fail
      go_ret
      exact ⟨rfl, B⟩
end Go.Proofs.YtclmenpclkmfeaaDoor
