/- Contract of torsionref01.Text. -/
import Derived.Test.YtlpoboikompjfaaGreatDoorVByteRow
import Derived.Test.YtlpoboikompjfaaGreatDoorVRSmall
import Derived.Test.YtlpoboikompjfaaGreatDoorVG24RDM
import Derived.Test.YtlpoboikompjfaaGreatDoorVG17DivModW
import Derived.Deep.LoopGhost
namespace Go.Proofs.YtlpoboikompjfaaGreatDoor
open Go.RowKit
set_option maxRecDepth 1000000 in
set_option maxHeartbeats 4000000 in
theorem rtext_z (neg : Bool) (A : Option Addr) (n c : Nat) {k : Nat} {z : Int} (w : World) (ha : IsInt w neg A n c z) (sa : Sz k z) (hk : k + 1 + 1 ≤ 10000) :
    Calls Tryz.prog 83 #[.agg #[.bool neg, .slice A n c]] w fun e w' => e = .returned (.string (txt z)) ∧ Below w.heap.size w w' := by
  have hs := ha.sign
  have P0 := (Slot2.new w (.bool neg) (.slice A n c) 26).alloc (.cells #[] 5)
  have b0 := (Below.refl w.heap.size w).alloc (Nat.le_refl _) (.cells #[.bool neg, .slice A n c] 26)
  have B0 := b0.alloc b0.size (.cells #[] 5)
  have E0 := OwnB.empty (w.alloc (.cells #[.bool neg, .slice A n c] 26)) w.heap.size (by rw [World.size_alloc]; omega)
  rw [World.size_alloc] at E0
  have hA0 := ha.below B0
  have hsz := sa.lt
  obtain ⟨V, hV⟩ : ∃ V, V = z.natAbs := ⟨_, rfl⟩
  have hlen := ha.lim.len
  have hnk : n ≤ 10000 := ha.sz sa
  rw [← hV] at hsz hlen
  have HS := Lib.hid (And.intro hs hV)
  have HSZ := Lib.hid hsz
  have HLEN0 := Lib.hid hlen
  clear hs hsz hlen b0 ha
  have ⟨p0, p1, _, _, _⟩ := P0
  go_enter Tryz.func83, Tryz.ntmps83
  go_wp2_with fail
  (with_reducible refine (rmadeAbs_z neg A n c _ hA0 sa).mono ?_)
  rintro e w1 ⟨g1, A1, n1, c1, rfl, hi1, hb1⟩
  rw [← HS.out.2] at hi1
  have P1 := P0.after hb1
  have E1 := E0.keep hb1
  have B1 := B0.trans (hb1.mono B0.size)
  clear P0 E0 B0 hA0 hb1 p0 p1
  go_wp2_with fail
  (with_reducible refine (rof_any 10 _ (by decide) (by decide)).mono ?_)
  rintro e w2 ⟨g2, A2, n2, c2, rfl, hi2, hb2⟩
  have SR3 := (Slot2.new w2 (.bool g1) (.slice A1 n1 c1) 26).alloc (.cells #[.bool g2, .slice A2 n2 c2] 26)
  have ST3 := Slot2.new (w2.alloc (.cells #[.bool g1, .slice A1 n1 c1] 26)) (.bool g2) (.slice A2 n2 c2) 26
  rw [World.size_alloc] at ST3
  have b3 := (Below.refl w2.heap.size w2).alloc (Nat.le_refl _) (.cells #[.bool g1, .slice A1 n1 c1] 26)
  have b4 := b3.alloc b3.size (.cells #[.bool g2, .slice A2 n2 c2] 26)
  have b24 := hb2.trans (b4.mono hb2.size)
  have P3 := P1.after b24
  have E3 := E1.keep b24
  have B3 := B1.trans (b24.mono B1.size)
  have hi3 := (hi1.below b24)
  have hi4 := (hi2.below b4)
  have hgw : w.heap.size < w2.heap.size := (P1.after hb2).2.2.2.2
  clear P1 E1 B1 hi1 hi2 b3 b4 b24 hb2
  have zT : Sz 1 10 := Sz.of (by decide) (by decide)
  go_wp2_with fail
  generalize (w2.alloc (.cells #[.bool g1, .slice A1 n1 c1] 26)).alloc (.cells #[.bool g2, .slice A2 n2 c2] 26) = V3 at *
  generalize w2.heap.size = g4 at *
  go_loopg [3] (V + 1) (fun g o wr => ∃ (R : Nat) (bs : List Nat) (A0 : Option Addr) (c0 : Nat), o = .slice A0 bs.length c0 ∧ Hid (R + (1 - bs.length) = g) ∧ Hid (TxInv V R bs) ∧ Hid (R * 10 ^ bs.length ≤ V ∧ bs.length ≤ 200000) ∧ R ≤ V ∧ OwnB wr w.heap.size (.slice A0 bs.length c0) bs.length bs ∧ IntAt wr g4 (R : Int) ∧ IntAt wr (g4 + 1) 10 ∧ Slot2 wr w.heap.size (.bool neg) (.slice A n c) ∧ Below w.heap.size w wr)
  case atStart => exact ⟨V, [], _, _, rfl, rfl, TxInv.start V, ⟨by simp, by simp⟩, Nat.le_refl _, E3, ⟨_, _, _, _, SR3, hi3⟩, ⟨_, _, _, _, ST3, hi4⟩, P3, B3⟩
  case round =>
    clear SR3 ST3 P3 E3 B3 hi3 hi4
    obtain ⟨R, bs, A0, c0, rfl, hg, HI, HB9, hRV, HO, ⟨gR, AR, nR, cR, SR, IR⟩, ⟨gT, AT, nT, cT, ST, IT⟩, SP, BW⟩ := hrel
    have zR : Sz k (R : Int) := Sz.of (by rw [Int.natAbs_natCast]; have := HSZ.out; omega) sa.le
    have ⟨r0, r1, _, _, _⟩ := SR
    obtain ⟨d, hd⟩ : ∃ d, d = R % 10 := ⟨_, rfl⟩
    have hd10 : d < 10 := by omega
    have HQ : Hid ((R : Int) / 10 = ((R / 10 : Nat) : Int)) := Lib.hid (by omega)
    have HD : Hid ((R : Int) % 10 = (d : Int)) := Lib.hid (by omega)
    have HDR := Lib.hid hd
    clear hd
    rcases Nat.eq_zero_or_pos R with hR | hR
    · subst hR
      have HSG : Hid (sgn ((0 : Nat) : Int) = 0) := Lib.hid rfl
      rcases Nat.eq_zero_or_pos bs.length with hbs | hbs
      · obtain rfl : bs = [] := List.eq_nil_of_length_eq_zero hbs
        have HLEN : Hid (0 ≤ 150000) := Lib.hid (by omega)
        have HST : Hid (TxInv V (0 / 10) [48 + d]) := Lib.hid (by have := HI.out.step (.inr rfl); rwa [← HDR.out] at this)
        have HM : Hid (0 / 10 + (1 - (0 + 1)) < 0 + (1 - 0)) := Lib.hid (by omega)
        have HBN : Hid (0 / 10 * 10 ^ [48 + d].length ≤ V ∧ [48 + d].length ≤ 200000) := Lib.hid ⟨by simp, by simp⟩
        clear HI HB9 HDR hbs
        simp only [List.length_nil] at HO
        go_wp2_with fail
        (with_reducible refine (rsign_z gR AR nR cR _ 0 IR HSG.out).mono ?_)
        rintro e w1 ⟨rfl, hb1⟩
        have SR1 := SR.after hb1
        have ST1 := ST.after hb1
        have SP1 := SP.after hb1
        have IR1 := IR.below hb1
        have IT1 := IT.below hb1
        have O1 := HO.keep hb1
        have BW1 := BW.trans (hb1.mono BW.size)
        have ⟨r0, r1, r2, r3, r4⟩ := SR1
        have ⟨t0, t1, t2, t3, t4⟩ := ST1
        clear hb1
        go_wp2_with fail
        (with_reducible refine (rdm_z gR gT AR AT nR cR nT cT _ IR1 IT1 zR zT (by decide) hk).mono ?_)
        rintro e w2 ⟨g1, A1, n1, c1, g2, A2, n2, c2, rfl, hq, hr, hb2⟩
        have hq9 := HQ.out
        have hd9 := HD.out
        rw [hq9] at hq
        rw [hd9] at hr
        clear hq9 hd9 r0 r1 r2 r3 r4 t0 t1 t2 t3 t4
        have b3 := (Below.refl w2.heap.size w2).alloc (Nat.le_refl _) (.cells #[.bool g1, .slice A1 n1 c1] 26)
        have b4 := b3.alloc b3.size (.cells #[.bool g2, .slice A2 n2 c2] 26)
        have SQ4 := (Slot2.new w2 (.bool g1) (.slice A1 n1 c1) 26).alloc (.cells #[.bool g2, .slice A2 n2 c2] 26)
        have SD4 := Slot2.new (w2.alloc (.cells #[.bool g1, .slice A1 n1 c1] 26)) (.bool g2) (.slice A2 n2 c2) 26
        rw [World.size_alloc] at SD4
        have b24 := hb2.trans (b4.mono hb2.size)
        have SR4 := SR1.after b24
        have ST4 := ST1.after b24
        have SP4 := SP1.after b24
        have IT4 := IT1.below b24
        have O4 := O1.keep b24
        have BW4 := BW1.trans (b24.mono BW1.size)
        have hq4 := hq.below b4
        have hr4 := hr.below b4
        clear SR1 ST1 SP1 IR1 IT1 O1 BW1 hb2 b3 b4 b24 hq hr
        obtain ⟨W4, hW4⟩ : ∃ W4, W4 = (w2.alloc (.cells #[.bool g1, .slice A1 n1 c1] 26)).alloc (.cells #[.bool g2, .slice A2 n2 c2] 26) := ⟨_, rfl⟩
        rw [← hW4] at SQ4 SD4 SR4 ST4 SP4 IT4 O4 BW4 hq4 hr4
        have ⟨d0, d1, d2, d3, d4⟩ := SD4
        go_wp2_with fail
        rw [← hW4]
        clear hW4
        go_wp2_with fail
        (with_reducible refine (rsmall_z g2 A2 n2 c2 (d : Int) _ hr4 (by omega) (by omega)).mono ?_)
        rintro e w5 ⟨rfl, hb5⟩
        have SQ5 := SQ4.after hb5
        have SR5 := SR4.after hb5
        have ST5 := ST4.after hb5
        have SP5 := SP4.after hb5
        have IT5 := IT4.below hb5
        have O5 := O4.keep hb5
        have BW5 := BW4.trans (hb5.mono BW4.size)
        have hq5 := hq4.below hb5
        clear SQ4 SD4 SR4 ST4 SP4 IT4 O4 BW4 hq4 hr4 hb5 d0 d1 d2 d3 d4
        have O5' := O5.keep ((Below.refl w5.heap.size w5).alloc (Nat.le_refl _) (.cells #[.int .u8 (48 + (d : Int))] 5))
        have D5 := OwnB.one w5 w5.heap.size (48 + d) (Nat.le_refl _)
        rw [Int.natCast_add] at D5
        go_wp2_with (at_builtin; refine wpList_append_b _ rfl (.tmp 41) (.tmp 42) rfl w5.heap.size (.slice (some ⟨w5.heap.size, 0, none⟩) 1 1) 1 [48 + d] rfl ?h1 w.heap.size A0 0 c0 [] rfl ?h2 ?h3 ?h4 ?h5)
        case h1 => exact D5
        case h2 => exact O5'
        case h3 => have := HLEN.out; omega
        case h4 => (first | (rw [World.size_alloc]; omega) | omega)
        case h5 =>
          intro A6 c6 w6 O6 hg6
          have hb6 : Below w5.heap.size w5 w6 := ((Below.refl w5.heap.size w5).alloc (Nat.le_refl _) (.cells #[.int .u8 (48 + (d : Int))] 5)).grown hg6 (by rw [World.size_alloc]; omega) (fun j hj => by simp only [Value.ownBlock, Option.some.injEq] at hj; omega)
          have SQ6 := SQ5.after hb6
          have SR6 := SR5.after hb6
          have ST6 := ST5.after hb6
          have SP6 := SP5.after hb6
          have IT6 := IT5.below hb6
          have BW6 := BW5.trans (hb6.mono BW5.size)
          have hq6 := hq5.below hb6
          have hbase := BW5.size
          have SG5 : g4 < w5.heap.size := SR5.2.2.2.2
          clear SQ5 SR5 ST5 SP5 IT5 O5 O5' D5 hq5 hg6
          have ⟨x0, x1, x2, x3, x4⟩ := SQ6
          have ⟨r0, r1, r2, r3, r4⟩ := SR6
          have hg5 := SG5
          have O7 := (((O6.far (p := ⟨g4, 0, none⟩) hg5 (.bool g1)).far (p := ⟨g4, 1, none⟩) hg5 (.slice A1 n1 c1)).mono hbase)
          skip
          have SR7 := SR6.set2 (.bool g1) (.slice A1 n1 c1)
          have ST7 := ST6.far2 (g' := g4) (by omega) (.bool g1) (.slice A1 n1 c1)
          have SP7 := SP6.far2 (g' := g4) (by omega) (.bool g1) (.slice A1 n1 c1)
          have hq7 := hq6.stored r0 r1 rfl rfl (.bool g1) (.slice A1 n1 c1)
          have IT7 := IT6.stored r0 r1 rfl rfl (.bool g1) (.slice A1 n1 c1)
          have BW7 := (BW6.setCell (p := ⟨g4, 0, none⟩) (Nat.le_of_lt hgw) (.bool g1)).setCell (p := ⟨g4, 1, none⟩) (Nat.le_of_lt hgw) (.slice A1 n1 c1)
          clear SR6 ST6 SP6 hq6 IT6 BW6 O6
          go_wp2_with fail
          go_roundg (0 / 10 + (1 - ([48 + d]).length))
          case measure => have h9 := hg.out; simp at h9 ⊢; omega
          case rel => exact ⟨0 / 10, [48 + d], A6, c6, rfl, rfl, HST, HBN, by omega, O7, ⟨_, _, _, _, SR7, hq7⟩, ⟨_, _, _, _, ST7, IT7⟩, SP7, BW7⟩
      · have hlb : ((bs.length : Int) == 0) = false := by simp; intro h; rw [h] at hbs; simp at hbs
        have hne : bs ≠ [] := by intro h; rw [h] at hbs; simp at hbs
        have hdone := HI.out.done rfl hne
        have hdig := HI.out.dig
        have HF := Lib.hid (And.intro hdone hdig)
        have HL2 := Lib.hid HB9.out.2
        have HPOS := Lib.hid hbs
        clear hdone hdig hne HI HB9 HDR hg hbs
        go_wp2_with fail
        (with_reducible refine (rsign_z gR AR nR cR _ 0 IR HSG.out).mono ?_)
        rintro e w1 ⟨rfl, hb1⟩
        have SP1 := SP.after hb1
        have O1 := HO.keep hb1
        have BW1 := BW.trans (hb1.mono BW.size)
        have hcv := O1.conv HPOS.out (fun b hb => by have := HF.out.2 b hb; omega)
        rw [← HF.out.1] at hcv
        have hle : (tx V).length ≤ 200000 := by rw [HF.out.1, List.length_map]; exact HL2.out
        have HLE := Lib.hid hle
        obtain ⟨T, hT⟩ : ∃ T : ByteArray, T = ⟨(tx V).toArray⟩ := ⟨_, rfl⟩
        rw [← hT] at hcv
        have HT9 := Lib.hid hT
        have ⟨q0, q1, _, _, _⟩ := SP1
        have hzs := HS.out.1
        clear hT hle hb1
        cases neg
        case false =>
          have HT0 : Hid (txt z = T) := by
            rw [Hid, HT9.out, txt, if_neg (by intro h; rw [decide_eq_true h] at hzs; cases hzs), ← HS.out.2]
            rfl
          clear hzs
          go_wp2
          go_ret
          refine ⟨?_, BW1⟩
          rw [HT0.out]
          rfl
        case true =>
          have hadd : ∀ W : World, (Op.stringOp .add ⟨#[45]⟩ T).run Tryz.prog W = .ok (.string (txt z)) W := by
            intro W
            have h := run_string_add_lists (P := Tryz.prog) W [45] (tx V) (by simp) (by have := HLE.out; omega)
            have h2 : txt z = ⟨([45] ++ tx V).toArray⟩ := by
              unfold txt
              rw [if_pos (by by_cases h : z < 0; exact h; rw [decide_eq_false h] at hzs; cases hzs), ← HS.out.2]
            rw [HT9.out, h2]
            exact h
          clear hzs
          go_wp2
          go_ret
          exact ⟨rfl, BW1⟩
    · have HSG : Hid (sgn ((R : Nat) : Int) = 1) := Lib.hid (by unfold sgn; rw [if_neg (by omega), if_pos (by omega)])
      have HLEN : Hid (bs.length ≤ 150000) := Lib.hid (by
        have h1 := digs_room (u := R) hR HB9.out.1 HLEN0.out
        omega)
      have HST : Hid (TxInv V (R / 10) ((48 + d) :: bs)) := Lib.hid (by have := HI.out.step (.inl hR); rwa [← HDR.out] at this)
      have HM : Hid (R / 10 + (1 - (bs.length + 1)) < R + (1 - bs.length)) := Lib.hid (by omega)
      have HBN : Hid (R / 10 * 10 ^ ((48 + d) :: bs).length ≤ V ∧ ((48 + d) :: bs).length ≤ 200000) := Lib.hid (by
        refine ⟨?_, by rw [List.length_cons]; have := HLEN.out; omega⟩
        rw [List.length_cons, Nat.pow_succ, Nat.mul_comm (10 ^ bs.length) 10, ← Nat.mul_assoc]
        exact Nat.le_trans (Nat.mul_le_mul_right _ (Nat.div_mul_le_self R 10)) HB9.out.1)
      clear HI HB9 HDR
      go_wp2_with fail
      (with_reducible refine (rsign_z gR AR nR cR _ 1 IR HSG.out).mono ?_)
      rintro e w1 ⟨rfl, hb1⟩
      have SR1 := SR.after hb1
      have ST1 := ST.after hb1
      have SP1 := SP.after hb1
      have IR1 := IR.below hb1
      have IT1 := IT.below hb1
      have O1 := HO.keep hb1
      have BW1 := BW.trans (hb1.mono BW.size)
      have ⟨r0, r1, r2, r3, r4⟩ := SR1
      have ⟨t0, t1, t2, t3, t4⟩ := ST1
      clear hb1
      go_wp2_with fail
      (with_reducible refine (rdm_z gR gT AR AT nR cR nT cT _ IR1 IT1 zR zT (by decide) hk).mono ?_)
      rintro e w2 ⟨g1, A1, n1, c1, g2, A2, n2, c2, rfl, hq, hr, hb2⟩
      have hq9 := HQ.out
      have hd9 := HD.out
      rw [hq9] at hq
      rw [hd9] at hr
      clear hq9 hd9 r0 r1 r2 r3 r4 t0 t1 t2 t3 t4
      have b3 := (Below.refl w2.heap.size w2).alloc (Nat.le_refl _) (.cells #[.bool g1, .slice A1 n1 c1] 26)
      have b4 := b3.alloc b3.size (.cells #[.bool g2, .slice A2 n2 c2] 26)
      have SQ4 := (Slot2.new w2 (.bool g1) (.slice A1 n1 c1) 26).alloc (.cells #[.bool g2, .slice A2 n2 c2] 26)
      have SD4 := Slot2.new (w2.alloc (.cells #[.bool g1, .slice A1 n1 c1] 26)) (.bool g2) (.slice A2 n2 c2) 26
      rw [World.size_alloc] at SD4
      have b24 := hb2.trans (b4.mono hb2.size)
      have SR4 := SR1.after b24
      have ST4 := ST1.after b24
      have SP4 := SP1.after b24
      have IT4 := IT1.below b24
      have O4 := O1.keep b24
      have BW4 := BW1.trans (b24.mono BW1.size)
      have hq4 := hq.below b4
      have hr4 := hr.below b4
      clear SR1 ST1 SP1 IR1 IT1 O1 BW1 hb2 b3 b4 b24 hq hr
      obtain ⟨W4, hW4⟩ : ∃ W4, W4 = (w2.alloc (.cells #[.bool g1, .slice A1 n1 c1] 26)).alloc (.cells #[.bool g2, .slice A2 n2 c2] 26) := ⟨_, rfl⟩
      rw [← hW4] at SQ4 SD4 SR4 ST4 SP4 IT4 O4 BW4 hq4 hr4
      have ⟨d0, d1, d2, d3, d4⟩ := SD4
      go_wp2_with fail
      rw [← hW4]
      clear hW4
      go_wp2_with fail
      (with_reducible refine (rsmall_z g2 A2 n2 c2 (d : Int) _ hr4 (by omega) (by omega)).mono ?_)
      rintro e w5 ⟨rfl, hb5⟩
      have SQ5 := SQ4.after hb5
      have SR5 := SR4.after hb5
      have ST5 := ST4.after hb5
      have SP5 := SP4.after hb5
      have IT5 := IT4.below hb5
      have O5 := O4.keep hb5
      have BW5 := BW4.trans (hb5.mono BW4.size)
      have hq5 := hq4.below hb5
      clear SQ4 SD4 SR4 ST4 SP4 IT4 O4 BW4 hq4 hr4 hb5 d0 d1 d2 d3 d4
      have O5' := O5.keep ((Below.refl w5.heap.size w5).alloc (Nat.le_refl _) (.cells #[.int .u8 (48 + (d : Int))] 5))
      have D5 := OwnB.one w5 w5.heap.size (48 + d) (Nat.le_refl _)
      rw [Int.natCast_add] at D5
      go_wp2_with (at_builtin; refine wpList_append_b _ rfl (.tmp 41) (.tmp 42) rfl w5.heap.size (.slice (some ⟨w5.heap.size, 0, none⟩) 1 1) 1 [48 + d] rfl ?h1 w.heap.size A0 bs.length c0 bs rfl ?h2 ?h3 ?h4 ?h5)
      case h1 => exact D5
      case h2 => exact O5'
      case h3 => have := HLEN.out; omega
      case h4 => (first | (rw [World.size_alloc]; omega) | omega)
      case h5 =>
        intro A6 c6 w6 O6 hg6
        have hb6 : Below w5.heap.size w5 w6 := ((Below.refl w5.heap.size w5).alloc (Nat.le_refl _) (.cells #[.int .u8 (48 + (d : Int))] 5)).grown hg6 (by rw [World.size_alloc]; omega) (fun j hj => by simp only [Value.ownBlock, Option.some.injEq] at hj; omega)
        have SQ6 := SQ5.after hb6
        have SR6 := SR5.after hb6
        have ST6 := ST5.after hb6
        have SP6 := SP5.after hb6
        have IT6 := IT5.below hb6
        have BW6 := BW5.trans (hb6.mono BW5.size)
        have hq6 := hq5.below hb6
        have hbase := BW5.size
        have SG5 : g4 < w5.heap.size := SR5.2.2.2.2
        clear SQ5 SR5 ST5 SP5 IT5 O5 O5' D5 hq5 hg6
        have ⟨x0, x1, x2, x3, x4⟩ := SQ6
        have ⟨r0, r1, r2, r3, r4⟩ := SR6
        have hg5 := SG5
        have O7 := (((O6.far (p := ⟨g4, 0, none⟩) hg5 (.bool g1)).far (p := ⟨g4, 1, none⟩) hg5 (.slice A1 n1 c1)).mono hbase)
        rw [Nat.add_comm 1 bs.length] at O7
        have SR7 := SR6.set2 (.bool g1) (.slice A1 n1 c1)
        have ST7 := ST6.far2 (g' := g4) (by omega) (.bool g1) (.slice A1 n1 c1)
        have SP7 := SP6.far2 (g' := g4) (by omega) (.bool g1) (.slice A1 n1 c1)
        have hq7 := hq6.stored r0 r1 rfl rfl (.bool g1) (.slice A1 n1 c1)
        have IT7 := IT6.stored r0 r1 rfl rfl (.bool g1) (.slice A1 n1 c1)
        have BW7 := (BW6.setCell (p := ⟨g4, 0, none⟩) (Nat.le_of_lt hgw) (.bool g1)).setCell (p := ⟨g4, 1, none⟩) (Nat.le_of_lt hgw) (.slice A1 n1 c1)
        clear SR6 ST6 SP6 hq6 IT6 BW6 O6
        go_wp2_with fail
        go_roundg (R / 10 + (1 - ((48 + d) :: bs).length))
        case measure => have := hg.out; have := HM.out; rw [List.length_cons]; omega
        case rel => exact ⟨R / 10, (48 + d) :: bs, A6, c6, by rw [List.length_cons, Nat.add_comm], rfl, HST, HBN, by omega, O7, ⟨_, _, _, _, SR7, hq7⟩, ⟨_, _, _, _, ST7, IT7⟩, SP7, BW7⟩
end Go.Proofs.YtlpoboikompjfaaGreatDoor
