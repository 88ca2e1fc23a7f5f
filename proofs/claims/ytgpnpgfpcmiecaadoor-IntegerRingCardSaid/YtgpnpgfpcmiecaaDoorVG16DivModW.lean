/- Contract of integer.DivMod for numbers of at most two limbs, and for the divisor 0. Contract of integer.Gcd, from contracts of divide. Contract of integer.extOfWords. Contract of integer.Root, from contracts of divide. -/
import Derived.Test.YtgpnpgfpcmiecaaDoorVDivModA
import Derived.Test.YtgpnpgfpcmiecaaDoorVDivModB
import Derived.Test.YtgpnpgfpcmiecaaDoorVDivModC
import Derived.Test.YtgpnpgfpcmiecaaDoorVDivModD
import Derived.Test.YtgpnpgfpcmiecaaDoorVG11DivMod
import Derived.Test.YtgpnpgfpcmiecaaDoorVG1Of
import Derived.Test.YtgpnpgfpcmiecaaDoorVG2TextA
import Derived.Test.YtgpnpgfpcmiecaaDoorVG6Small
namespace Go.Proofs.YtgpnpgfpcmiecaaDoor
open Go.RowKit
/-- DivMod, from a contract of divide at the same sizes. -/
theorem dm_any (neg neg' : Bool) (A A' : Option Addr) (n c m d : Nat) (a b : Int) (w : World) (ha : IsInt w neg A n c a) (hb : IsInt w neg' A' m d b) (hb0 : b ≠ 0) (hm : m ≤ 1000000)
    (HD : ∀ W, Below w.heap.size w W → Calls Tryd.prog 56 #[.slice A n n, .slice A' m m] W (DivRes W (a.natAbs / b.natAbs) (a.natAbs % b.natAbs))) :
    Calls Tryd.prog 24 #[.agg #[.bool neg, .slice A n c], .agg #[.bool neg', .slice A' m d]] w (RetDM w (a / b) (a % b)) := by
  cases neg <;> cases neg'
  · exact dm_false_false_0 A A' n c m d a b _ _ w ha hb hb0 rfl rfl hm HD
  · exact dm_false_true_0 A A' n c m d a b _ _ w ha hb hb0 rfl rfl hm HD
  · rcases Nat.eq_zero_or_pos (a.natAbs % b.natAbs) with h | h
    · exact dm_true_false_z A A' n c m d a b _ _ w ha hb hb0 rfl rfl hm h HD
    · exact dm_true_false_p A A' n c m d a b _ _ w ha hb hb0 rfl rfl hm h HD
  · rcases Nat.eq_zero_or_pos (a.natAbs % b.natAbs) with h | h
    · exact dm_true_true_z A A' n c m d a b _ _ w ha hb hb0 rfl rfl hm h HD
    · exact dm_true_true_p A A' n c m d a b _ _ w ha hb hb0 rfl rfl hm h HD
theorem dmW_any (neg neg' : Bool) (A A' : Option Addr) (n c m d : Nat) (a b : Int) (w : World) (ha : IsInt w neg A n c a) (hb : IsInt w neg' A' m d b) (hb0 : b ≠ 0) (hn : n ≤ 2) (hm : m ≤ 2) :
    Calls Tryd.prog 24 #[.agg #[.bool neg, .slice A n c], .agg #[.bool neg', .slice A' m d]] w (RetDM w (a / b) (a % b)) :=
  dm_any neg neg' A A' n c m d a b w ha hb hb0 (by omega) fun W hW => divW_any A A' n n m m a.natAbs b.natAbs W ((ha.lim.tight.below hW).more hW.size) ((hb.lim.tight.below hW).more hW.size) hn hm (by omega)
end Go.Proofs.YtgpnpgfpcmiecaaDoor
namespace Go.Proofs.YtgpnpgfpcmiecaaDoor
open Go.RowKit
/-- divide serves up to L limbs. -/
def DivOk (L : Nat) : Prop := ∀ (A A' : Option Addr) (n c m d a b : Nat) (W : World), Lim W W.heap.size A n c (digs a) → Lim W W.heap.size A' m d (digs b) → n ≤ L → m ≤ L → 0 < b →
  Calls Tryd.prog 56 #[.slice A n c, .slice A' m d] W (DivRes W (a / b) (a % b))
theorem divOk2 : DivOk 2 := fun A A' n c m d a b W ha hb hn hm hb0 => divW_any A A' n c m d a b W ha hb hn hm hb0
set_option maxHeartbeats 2000000 in
theorem gcd_of (L : Nat) (HD : DivOk L) (hL : L ≤ 1000000) (neg neg' : Bool) (A A' : Option Addr) (n c m d : Nat) (a b : Int) (w : World) (ha : IsInt w neg A n c a) (hb : IsInt w neg' A' m d b) (hn : n ≤ L) (hm : m ≤ L) :
    Calls Tryd.prog 31 #[.agg #[.bool neg, .slice A n c], .agg #[.bool neg', .slice A' m d]] w (RetInt w ((Nat.gcd a.natAbs b.natAbs : Nat) : Int)) := by
  have T1 := fun W (hW : Below w.heap.size w W) => trim_digs A n c w.heap.size a.natAbs W (ha.lim.below hW)
  have T2 := fun W (hW : Below w.heap.size w W) => trim_digs A' m d w.heap.size b.natAbs W (hb.lim.below hW)
  have hla := ha.lim.tight
  have hlb := hb.lim.tight
  have HD' := Lib.hid HD
  have T1' := Lib.hid T1
  have T2' := Lib.hid T2
  clear T1 T2 HD ha hb
  generalize a.natAbs = va at *
  generalize b.natAbs = vb at *
  obtain ⟨HB, P0, Q0, R0⟩ := frame21 w (.bool neg) (.slice A n c) (.bool neg') (.slice A' m d)
  have ⟨c0, c1, _, _, _⟩ := P0
  have ⟨c2, c3, _, _, _⟩ := Q0
  go_enter Tryd.func31, Tryd.ntmps31
  go_wp2_with fail
  go_region_held3 (fun W => W.cell? ⟨w.heap.size, 0, none⟩ = some (.bool neg) ∧ W.cell? ⟨w.heap.size, 1, none⟩ = some (.slice A n c) ∧ W.cell? ⟨w.heap.size + 1, 0, none⟩ = some (.bool neg') ∧ W.cell? ⟨w.heap.size + 1, 1, none⟩ = some (.slice A' m d)) (first | exact ⟨P0.1, P0.2.1, Q0.1, Q0.2.1⟩)
    (first | (go_at_call 49; (with_reducible refine (T1'.out _ ?_).mono ?_); (first | exact HB | exact HB.drew | exact Below.drewN' HB _); rintro e w1 ⟨rfl, rfl⟩) | (go_at_call 49; (with_reducible refine (T2'.out _ ?_).mono ?_); (first | exact HB | exact HB.drew | exact Below.drewN' HB _); rintro e w1 ⟨rfl, rfl⟩))
  go_wp2
  go_loopg [5, 6] vb (fun g s t wr => ∃ (A5 A6 : Option Addr) (n5 c5 n6 c6 x : Nat), s = .slice A5 n5 c5 ∧ t = .slice A6 n6 c6 ∧ Lim wr wr.heap.size A5 n5 c5 (digs x) ∧ Lim wr wr.heap.size A6 n6 c6 (digs g) ∧ n5 ≤ L ∧ n6 ≤ L ∧ Hid (Nat.gcd x g = Nat.gcd va vb) ∧ Below w.heap.size w wr ∧ Slot2 wr (w.heap.size + 1 + 1) (.bool false) (.slice none 0 0))
  case atStart =>
    refine ⟨A, A', n, n, m, m, va, rfl, rfl, ?_, ?_, hn, hm, rfl, ?_, ?_⟩
    · exact ((hla.below HB).more HB.size).drew
    · exact ((hlb.below HB).more HB.size).drew
    · exact HB.drew
    · exact R0.drew
  case round =>
    obtain ⟨A5, A6, n5, c5, n6, c6, x, rfl, rfl, h5, h6, hn5, hn6, hg, BW, RW⟩ := hrel
    rcases Nat.eq_zero_or_pos gk with h0 | h0
    · subst h0
      have hz : n6 = 0 := by rw [← h6.len, digs_zero]; rfl
      subst hz
      have hgx : x = Nat.gcd va vb := by rw [← hg.out, Nat.gcd_zero_right]
      have HGX := Lib.hid hgx
      clear hgx
      go_wp2_with fail
      refine (clone_any A5 n5 c5 _ (digs x) _ h5 (Nat.le_refl _) (by omega)).mono ?_
      rintro e w1 ⟨A1, n1, c1, rfl, hl1, hb1⟩
      have R1 := RW.after hb1
      have B1 := BW.trans (hb1.mono BW.size)
      go_wp2_with fail
      refine (build_val false A1 n1 c1 x (x : Int) (digs x) _ hl1 (val_digs x) rfl).mono ?_
      rintro e w2 ⟨neg2, A2, n2, c2, rfl, hi2, hb2⟩
      obtain ⟨k0, k1, f0, f1, _⟩ := R1.after hb2
      rw [HGX.out] at hi2
      go_wp2
      exact bodyPost_ret (v := .agg #[.bool neg2, .slice A2 n2 c2]) (by simp [results, Tryd.results31, go_sem, k0, k1]) rfl
        (RetInt.stored hi2 B1 hb2 (by omega) k0 k1 rfl rfl)
    · have hz : 0 < n6 := by rw [← h6.len]; exact digs_len_pos h0
      by_cases hw : n5 ≤ 2 ∧ n6 ≤ 2
      · have hx2 : x < 18446744073709551616 := lt_two (by rw [h5.len]; exact hw.1)
        have hg2 : gk < 18446744073709551616 := lt_two (by rw [h6.len]; exact hw.2)
        have HW := words_yes A5 A6 n5 c5 n6 c6 _ _ _ _ wr h5 h6 hw.1 hw.2
        rw [val_digs, val_digs] at HW
        have HC := fun W => gcdWords_any x gk W hx2 hg2
        rw [hg.out] at HC
        have hgl : Nat.gcd va vb < 18446744073709551616 := by
          rw [← hg.out]
          exact Nat.lt_of_le_of_lt (Nat.le_of_dvd h0 (Nat.gcd_dvd_right x gk)) hg2
        generalize Nat.gcd va vb = G at *
        have HW' := Lib.hid HW
        have HC' := Lib.hid HC
        clear HW HC
        go_wp2_with fail
        refine HW'.out.mono ?_
        rintro e w1 ⟨rfl, hd1⟩
        go_wp2_with fail
        refine (HC'.out _).mono ?_
        rintro e w2 ⟨rfl, hd2⟩
        have hd := hd1.trans hd2
        have B2 := BW.trans (hd.below _)
        have R2 := RW.after (hd.below _)
        go_wp2_with fail
        refine (ofWord_any G _ hgl).mono ?_
        rintro e w3 ⟨A3, n3, c3, rfl, hl3, hb3⟩
        have B3 := B2.trans (hb3.mono B2.size)
        have R3 := R2.after hb3
        go_wp2_with fail
        refine (build_val false A3 n3 c3 G (G : Int) (digs G) _ hl3 (val_digs G) rfl).mono ?_
        rintro e w4 ⟨neg4, A4, n4, c4, rfl, hi4, hb4⟩
        obtain ⟨k0, k1, f0, f1, _⟩ := R3.after hb4
        go_wp2
        exact bodyPost_ret (v := .agg #[.bool neg4, .slice A4 n4 c4]) (by simp [results, Tryd.results31, go_sem, k0, k1]) rfl
          (RetInt.stored hi4 B3 hb4 (by omega) k0 k1 rfl rfl)
      · have HW' := Lib.hid (words_no A5 A6 n5 c5 n6 c6 _ _ _ _ wr h5 h6 hw)
        clear hw
        go_wp2_with fail
        refine HW'.out.mono ?_
        rintro e w1 ⟨⟨x1, y1, rfl⟩, hd1⟩
        have h5' := (h5.drawn hd1).more (B' := w1.heap.size) (by rw [hd1.size]; exact Nat.le_refl _)
        have h6' := (h6.drawn hd1).more (B' := w1.heap.size) (by rw [hd1.size]; exact Nat.le_refl _)
        have B1 := BW.trans (hd1.below _)
        have R1 := RW.after (hd1.below _)
        go_wp2_with fail
        refine (HD'.out A5 A6 n5 c5 n6 c6 x gk _ h5' h6' hn5 hn6 h0).mono ?_
        rintro e w2 ⟨A7, n7, c7, us, A8, n8, c8, vs, rfl, hl7, hl8, hv7, hv8, hn7, hb2⟩
        have HT := Lib.hid (trim_val A8 n8 c8 _ (x % gk) _ vs w2 hl8 hv8 rfl)
        have h8 := hl8.trimv hv8 rfl
        have h9 := (h6'.below hb2).more hb2.size
        have B2 := B1.trans (hb2.mono B1.size)
        have R2 := R1.after hb2
        have hlt := Nat.mod_lt x h0
        have hk : (digs (x % gk)).length ≤ n6 := by rw [← h6.len]; exact digs_len_mono (Nat.le_of_lt hlt)
        have hgg : Nat.gcd gk (x % gk) = Nat.gcd va vb := by rw [← hg.out, Nat.gcd_comm x gk, Nat.gcd_rec gk x, Nat.gcd_comm]
        have HGG := Lib.hid hgg
        clear hv7 hv8 hgg
        generalize x % gk = r at *
        obtain ⟨k, hk2⟩ : ∃ k, k = (digs r).length := ⟨_, rfl⟩
        rw [← hk2] at HT h8 hk
        clear hk2
        go_wp2_with fail
        refine HT.out.mono ?_
        rintro e w3 ⟨rfl, rfl⟩
        go_wp2
        go_roundg r
        case measure => omega
        case rel => exact ⟨A6, A8, n6, c6, k, k, gk, rfl, rfl, h9, h8, hn6, by omega, HGG.out, B2, R2⟩
end Go.Proofs.YtgpnpgfpcmiecaaDoor
namespace Go.Proofs.YtgpnpgfpcmiecaaDoor
open Go.RowKit
theorem w_bmod (x : Int) : IntKind.i64.wrap x = Int.bmod x 18446744073709551616 := by
  rw [IntKind.wrap_i64, Int.bmod_def]
  split <;> omega
theorem w_step (s s' q : Int) : IntKind.i64.wrap (IntKind.i64.wrap s - IntKind.i64.wrap (IntKind.i64.wrap q * IntKind.i64.wrap s')) = IntKind.i64.wrap (s - q * s') := by
  simp only [w_bmod, Int.bmod_sub_bmod, Int.sub_bmod_bmod, Int.bmod_mul_bmod, Int.mul_bmod_bmod]
theorem w64 (x : Int) : wrap64 x = IntKind.i64.wrap x := by unfold wrap64; rw [IntKind.wrap_i64]
theorem w_small {x : Int} (h : x.natAbs < 9223372036854775808) : IntKind.i64.wrap x = x := by rw [IntKind.wrap_i64]; omega
/-- Three integers come back. -/
def Ret3 (w : World) (x y z : Int) (e : Ending) (w' : World) : Prop := ∃ g1 A1 n1 c1 g2 A2 n2 c2 g3 A3 n3 c3, e = .returned (.tuple #[.agg #[.bool g1, .slice A1 n1 c1], .agg #[.bool g2, .slice A2 n2 c2], .agg #[.bool g3, .slice A3 n3 c3]]) ∧
  IsInt w' g1 A1 n1 c1 x ∧ IsInt w' g2 A2 n2 c2 y ∧ IsInt w' g3 A3 n3 c3 z ∧ Below w.heap.size w w'
theorem frame003 (w : World) : Below w.heap.size w (((w.alloc (.cells #[.bool false, .slice none 0 0] 28)).alloc (.cells #[.bool false, .slice none 0 0] 28)).alloc (.cells #[.bool false, .slice none 0 0] 28)) ∧
    Slot2 (((w.alloc (.cells #[.bool false, .slice none 0 0] 28)).alloc (.cells #[.bool false, .slice none 0 0] 28)).alloc (.cells #[.bool false, .slice none 0 0] 28)) w.heap.size (.bool false) (.slice none 0 0) ∧
    Slot2 (((w.alloc (.cells #[.bool false, .slice none 0 0] 28)).alloc (.cells #[.bool false, .slice none 0 0] 28)).alloc (.cells #[.bool false, .slice none 0 0] 28)) (w.heap.size + 1) (.bool false) (.slice none 0 0) ∧
    Slot2 (((w.alloc (.cells #[.bool false, .slice none 0 0] 28)).alloc (.cells #[.bool false, .slice none 0 0] 28)).alloc (.cells #[.bool false, .slice none 0 0] 28)) (w.heap.size + 1 + 1) (.bool false) (.slice none 0 0) := frame21 w _ _ _ _
set_option maxHeartbeats 2000000 in
theorem extWords_any (a b : Nat) (w : World) (ha : a < 18446744073709551616) (hb : b < 18446744073709551616) (h0 : 0 < a ∨ 0 < b) :
    Calls Tryd.prog 74 #[.int .u64 (a : Int), .int .u64 (b : Int)] w fun e w' => ∃ s t s' t' : Int, Ret3 w (Nat.gcd a b : Nat) s t e w' ∧ ExtInv a b (Nat.gcd a b) 0 s s' t t' := by
  obtain ⟨HB, P0, Q0, R0⟩ := frame003 w
  go_enter Tryd.func74, Tryd.ntmps74
  go_wp2
  go_loopw [7, 8, 9, 10, 11, 12] (fun s7 s8 s9 s10 s11 s12 wr => ∃ (g r : Nat) (S S' T T' : Int), s7 = .int .u64 g ∧ s8 = .int .u64 r ∧ s9 = .int .i64 S ∧ s10 = .int .i64 S' ∧ s11 = .int .i64 T ∧ s12 = .int .i64 T' ∧ g < 18446744073709551616 ∧ r < 18446744073709551616 ∧ (0 < g ∨ 0 < r) ∧
    Hid (∃ s s' t t' : Int, S = IntKind.i64.wrap s ∧ S' = IntKind.i64.wrap s' ∧ T = IntKind.i64.wrap t ∧ T' = IntKind.i64.wrap t' ∧ ExtInv a b g r s s' t t') ∧ Below w.heap.size w wr ∧ Slot2 wr w.heap.size (.bool false) (.slice none 0 0) ∧ Slot2 wr (w.heap.size + 1) (.bool false) (.slice none 0 0) ∧ Slot2 wr (w.heap.size + 1 + 1) (.bool false) (.slice none 0 0)) (fun _ s8 _ _ _ _ _ => (intOf s8).toNat)
  case atStart => exact ⟨a, b, 1, 0, 0, 1, rfl, rfl, rfl, rfl, rfl, rfl, ha, hb, h0, ⟨1, 0, 0, 1, rfl, rfl, rfl, rfl, ExtInv.start a b⟩, HB, P0, Q0, R0⟩
  case round =>
    obtain ⟨g, r, S, S', T, T', rfl, rfl, rfl, rfl, rfl, rfl, hg, hr, hgr, hI, BW, P, Q, R⟩ := hrel
    rcases Nat.eq_zero_or_pos r with hr0 | hr0
    · subst hr0
      have hg0 : 0 < g := by omega
      obtain ⟨s, s', t, t', rfl, rfl, rfl, rfl, inv⟩ := hI.out
      have hgg : g = Nat.gcd a b := by have := inv.gc; rwa [Nat.gcd_zero_right] at this
      have hsb : s.natAbs < 9223372036854775808 := by
        have h1 := inv.a1
        rw [Nat.mul_zero, Nat.add_zero] at h1
        have h2 : s'.natAbs * 1 ≤ s'.natAbs * g := Nat.mul_le_mul_left _ hg0
        rcases inv.o1 with h | h | ⟨_, h⟩ <;> omega
      have htb : t.natAbs < 9223372036854775808 := by
        have h1 := inv.a2
        rw [Nat.mul_zero, Nat.add_zero] at h1
        have h2 : t'.natAbs * 1 ≤ t'.natAbs * g := Nat.mul_le_mul_left _ hg0
        rcases inv.o2 with h | h | ⟨_, h⟩ <;> omega
      have HS := fun W => of_any s W (by omega) (by omega)
      have HT := fun W => of_any t W (by omega) (by omega)
      have es := w_small hsb
      have et := w_small htb
      rw [es, et]
      have HG := fun W => ofWord_any g W hg
      have HF : Hid (∃ s' t', ExtInv a b (Nat.gcd a b) 0 s s' t t') := ⟨s', t', hgg ▸ inv⟩
      have HGG := Lib.hid hgg
      have HS' := Lib.hid HS
      have HT' := Lib.hid HT
      have HG' := Lib.hid HG
      clear HS HT HG hgg hI inv es et
      generalize IntKind.i64.wrap s' = X at *
      generalize IntKind.i64.wrap t' = Y at *
      clear s' t'
      go_wp2_with fail
      refine (HG'.out _).mono ?_
      rintro e w1 ⟨A1, n1, c1, rfl, hl1, hb1⟩
      go_wp2_with fail
      refine (build_val false A1 n1 c1 g (g : Int) (digs g) _ hl1 (val_digs g) rfl).mono ?_
      rintro e w2 ⟨g2, A2, n2, c2, rfl, hi2, hb2⟩
      rw [HGG.out] at hi2
      go_wp2_with fail
      refine (HS'.out _).mono ?_
      rintro e w3 ⟨g3, A3, n3, c3, rfl, hi3, hb3⟩
      go_wp2_with fail
      refine (HT'.out _).mono ?_
      rintro e w4 ⟨g4, A4, n4, c4, rfl, hi4, hb4⟩
      have B1 := BW.trans (hb1.mono BW.size)
      have B2 := B1.trans (hb2.mono B1.size)
      have B3 := B2.trans (hb3.mono B2.size)
      have B4 := B3.trans (hb4.mono B3.size)
      have P4 := (((P.after hb1).after hb2).after hb3).after hb4
      have Q4 := (((Q.after hb1).after hb2).after hb3).after hb4
      have R4 := (((R.after hb1).after hb2).after hb3).after hb4
      have hi2' := (hi2.below hb3).below hb4
      have hi3' := hi3.below hb4
      have ⟨p0, p1, p2, p3, p4⟩ := P4
      have ⟨q0, q1, q2, q3, q4⟩ := Q4
      have ⟨r0, r1, r2, r3, r4⟩ := R4
      go_wp2
      have Q5 := Q4.far2 (g' := w.heap.size) (by omega) (.bool g2) (.slice A2 n2 c2)
      have R5 := (R4.far2 (g' := w.heap.size) (by omega) (.bool g2) (.slice A2 n2 c2)).far2 (g' := w.heap.size + 1) (by omega) (.bool g3) (.slice A3 n3 c3)
      have st := fun {neg A n c z} (h : IsInt w4 neg A n c z) => ((h.stored p0 p1 rfl rfl (.bool g2) (.slice A2 n2 c2)).stored Q5.1 Q5.2.1 rfl rfl (.bool g3) (.slice A3 n3 c3)).stored R5.1 R5.2.1 rfl rfl (.bool g4) (.slice A4 n4 c4)
      obtain ⟨s', t', inv⟩ := HF.out
      refine bodyPost_ret (v := .tuple #[.agg #[.bool g2, .slice A2 n2 c2], .agg #[.bool g3, .slice A3 n3 c3], .agg #[.bool g4, .slice A4 n4 c4]]) (by simp [results, Tryd.results74, go_sem, p0, p1, q0, q1, r0, r1]) rfl
        ⟨s, t, s', t', ⟨_, _, _, _, _, _, _, _, _, _, _, _, rfl, st hi2', st hi3', st hi4, (((((B4.setCell (by simp) _).setCell (by simp) _).setCell (by simp) _).setCell (by simp) _).setCell (by simp <;> omega) _).setCell (by simp <;> omega) _⟩, inv⟩
    · have hb1 : ((r : Int) != 0) = true := by simp; omega
      have hb2 : ((r : Int) == 0) = false := by simp; omega
      go_wp2
      go_quiet (fail)
      go_wp2
      have e3 : IntKind.u64.wrap ((g : Int) / (r : Int)) = ((g / r : Nat) : Int) := by
        have h1 : g / r ≤ g := Nat.div_le_self g r
        have h2 : (g : Int) / (r : Int) = ((g / r : Nat) : Int) := rfl
        rw [h2, IntKind.wrap_u64]
        generalize g / r = q at *
        omega
      have hm := Nat.mod_lt g hr0
      refine ⟨⟨r, g % r, S', _, T', _, rfl, by rw [Int.natCast_emod], rfl, rfl, rfl, rfl, hr, by omega, .inl hr0, ?_, Below.drewN' BW _, P.drewN _, Q.drewN _, R.drewN _⟩, ?_⟩
      · obtain ⟨s, s', t, t', hS, hS', hT, hT', inv⟩ := hI.out
        refine ⟨s', s - (g / r : Nat) * s', t', t - (g / r : Nat) * t', hS', ?_, hT', ?_, inv.step hr0⟩
        · rw [e3, hS, hS', w64, w64, w64]; exact w_step s s' _
        · rw [e3, hT, hT', w64, w64, w64]; exact w_step t t' _
      · have e4 : (g : Int) % (r : Int) = ((g % r : Nat) : Int) := rfl
        rw [e4]
        show (((g % r : Nat) : Int)).toNat < ((r : Nat) : Int).toNat
        omega
end Go.Proofs.YtgpnpgfpcmiecaaDoor
namespace Go.Proofs.YtgpnpgfpcmiecaaDoor
open Go.RowKit
set_option maxHeartbeats 1000000 in
theorem root_neg (A : Option Addr) (n c : Nat) (a : Int) (w : World) (ha : IsInt w true A n c a) :
    Calls Tryd.prog 43 #[.agg #[.bool true, .slice A n c]] w (RetIE w 0 1) := by
  have T1 := Lib.hid (fun W hW => tidy_z true A n c a w W ha hW)
  clear ha
  obtain ⟨HB, P0, R0⟩ := frame11 w (.bool true) (.slice A n c)
  go_enter Tryd.func43, Tryd.ntmps43
  go_wp2_with fail
  refine (T1.out _ HB).mono ?_
  rintro e w1 ⟨rfl, hb1⟩
  have ⟨p0, p1, p2, p3, p4⟩ := P0.after hb1
  have ⟨r0, r1, r2, r3, r4⟩ := (R0.after hb1).far2 (g' := w.heap.size) (by omega) (.bool true) (.slice A n n)
  have B1 := ((HB.trans (hb1.mono HB.size)).setCell (p := ⟨w.heap.size, 0, none⟩) (by simp) (.bool true)).setCell (p := ⟨w.heap.size, 1, none⟩) (by simp) (.slice A n n)
  go_wp2
  exact bodyPost_ret (v := .tuple #[.agg #[.bool false, .slice none 0 0], .int .i64 1]) (by simp [results, Tryd.results43, go_sem, r0, r1]) rfl
    ⟨_, _, _, _, rfl, isInt_zero _ (by omega), (B1.setCell (by simp) _).setCell (by simp) _⟩
set_option maxHeartbeats 2000000 in
theorem root_of (L : Nat) (HD : DivOk L) (hL : L ≤ 999999) (A : Option Addr) (n c v : Nat) (w : World) (ha : IsInt w false A n c (v : Int)) (hn : n + 1 ≤ L) :
    Calls Tryd.prog 43 #[.agg #[.bool false, .slice A n c]] w fun e w' => ∃ r : Nat, RetIE w (r : Int) 0 e w' ∧ r * r ≤ v ∧ v < (r + 1) * (r + 1) := by
  have T1 := Lib.hid (fun W hW => tidy_z false A n c (v : Int) w W ha hW)
  have hlen := ha.lim.len
  rw [Int.natAbs_natCast] at hlen
  obtain ⟨HB, P0, R0⟩ := frame11 w (.bool false) (.slice A n c)
  rcases Nat.eq_zero_or_pos n with h0 | h0
  · subst h0
    have hv : v = 0 := by rw [digs_len_zero] at hlen; exact hlen
    subst hv
    go_enter Tryd.func43, Tryd.ntmps43
    go_wp2_with fail
    refine (T1.out _ HB).mono ?_
    rintro e w1 ⟨rfl, hb1⟩
    have ⟨p0, p1, p2, p3, p4⟩ := P0.after hb1
    have ⟨r0, r1, r2, r3, r4⟩ := (R0.after hb1).far2 (g' := w.heap.size) (by omega) (.bool false) (.slice A 0 0)
    have B1 := ((HB.trans (hb1.mono HB.size)).setCell (p := ⟨w.heap.size, 0, none⟩) (by simp) (.bool false)).setCell (p := ⟨w.heap.size, 1, none⟩) (by simp) (.slice A 0 0)
    go_wp2
    exact bodyPost_ret (v := .tuple #[.agg #[.bool false, .slice none 0 0], .int .i64 0]) (by simp [results, Tryd.results43, go_sem, r0, r1]) rfl
      ⟨0, ⟨_, _, _, _, rfl, isInt_zero _ (by omega), (B1.setCell (by simp) _).setCell (by simp) _⟩, by omega, by omega⟩
  · have hv0 : 0 < v := by
      rcases Nat.eq_zero_or_pos v with e | e
      · subst e; rw [digs_zero] at hlen; simp at hlen; omega
      · exact e
    have b1 : ((n : Int) == 0) = false := by simp; omega
    have HV0 := Lib.hid hv0
    have HD' := Lib.hid HD
    have HA := Lib.hid ha
    have HLEN := Lib.hid hlen
    clear hv0 HD ha hlen
    go_enter Tryd.func43, Tryd.ntmps43
    go_wp2_with fail
    refine (T1.out _ HB).mono ?_
    rintro e w1 ⟨rfl, hb1⟩
    have ⟨p0, p1, p2, p3, p4⟩ := P0.after hb1
    have P1 := (P0.after hb1).set2 (.bool false) (.slice A n n)
    have R1 := (R0.after hb1).far2 (g' := w.heap.size) (by omega) (.bool false) (.slice A n n)
    have B1 := ((HB.trans (hb1.mono HB.size)).setCell (p := ⟨w.heap.size, 0, none⟩) (by simp) (.bool false)).setCell (p := ⟨w.heap.size, 1, none⟩) (by simp) (.slice A n n)
    have HA1 : IsInt ((w1.setCell ⟨w.heap.size, 0, none⟩ (.bool false)).setCell ⟨w.heap.size, 1, none⟩ (.slice A n n)) false A n n (v : Int) := ⟨HA.out.sign, (HA.out.lim.tight.below B1).more B1.size⟩
    have HBit := Lib.hid (bits_any false A n n (v : Int) _ HA1 (by omega))
    clear HA1
    go_wp2_with fail
    refine HBit.out.mono ?_
    rintro e w2 ⟨bb, ⟨rfl, hbb⟩, hb2⟩
    have hbl : bb ≤ 32 * n := by
      rcases Nat.lt_or_ge (32 * n) bb with h | h
      · have h1 := (hbb.2.2 (by rw [Int.natAbs_natCast]; exact HV0.out)).1
        rw [Int.natAbs_natCast] at h1
        have h2 := lt_digs_len v
        rw [HLEN.out] at h2
        have h3 : (2 : Nat) ^ (32 * n) ≤ 2 ^ (bb - 1) := Nat.pow_le_pow_right (by omega) (by omega)
        rw [Nat.pow_mul] at h3
        have h4 : (2 ^ 32 : Nat) = 4294967296 := by decide
        rw [h4] at h3
        omega
      · exact h
    obtain ⟨h, hh⟩ : ∃ h, h = (bb + 1) / 2 := ⟨_, rfl⟩
    have hh1 : h ≤ 16 * n := by omega
    have hvh : v < (2 ^ h + 1) * (2 ^ h + 1) := by
      have h1 := hbb.1
      rw [Int.natAbs_natCast] at h1
      have h2 : (2 : Nat) ^ bb ≤ 2 ^ (h + h) := Nat.pow_le_pow_right (by omega) (by omega)
      rw [Nat.pow_add] at h2
      have h3 : 2 ^ h * 2 ^ h ≤ (2 ^ h + 1) * (2 ^ h + 1) := Nat.mul_le_mul (by omega) (by omega)
      omega
    have HVH := Lib.hid hvh
    have e1 : ((bb : Int) + 1) / 2 = (h : Int) := by omega
    clear hh hbb hvh
    have P2 := P1.after hb2
    have R2 := R1.after hb2
    have B2 := B1.trans (hb2.mono B1.size)
    go_wp2_with fail
    refine (pow2_any h _ (by omega)).mono ?_
    rintro e w3 ⟨zs, ⟨A3, n3, c3, rfl, hl3, hb3⟩, hv3, hn3⟩
    have P3 := P2.after hb3
    have R3 := R2.after hb3
    have B3 := B2.trans (hb3.mono B2.size)
    have hzs : zs = digs (2 ^ h) := by
      rw [← hv3]
      apply eq_digs hl3.lt
      rw [hv3, hn3]
      apply digs_len_lt
      have h4 : (4294967296 : Nat) ^ (h / 32) = 2 ^ (32 * (h / 32)) := by rw [Nat.pow_mul]
      rw [h4]
      exact Nat.pow_le_pow_right (by omega) (by omega)
    have hn3' : n3 ≤ n + 1 := by rw [← hl3.len, hn3]; omega
    rw [hzs] at hl3
    clear hv3 hn3 hzs
    go_wp2
    go_loopg [4] (2 ^ h) (fun g s wr => ∃ (A4 : Option Addr) (n4 c4 : Nat), s = .slice A4 n4 c4 ∧ Lim wr wr.heap.size A4 n4 c4 (digs g) ∧ 0 < g ∧ Hid (v < (g + 1) * (g + 1)) ∧ n4 ≤ n + 1 ∧ Slot2 wr w.heap.size (.bool false) (.slice A n n) ∧ Slot2 wr (w.heap.size + 1) (.bool false) (.slice none 0 0) ∧ Below w.heap.size w wr)
    case atStart => exact ⟨A3, n3, c3, rfl, hl3, Nat.two_pow_pos h, HVH.out, hn3', P3, R3, B3⟩
    case round =>
      obtain ⟨A4, n4, c4, rfl, hl4, hg0, hvg, hn4, P4, R4, B4⟩ := hrel
      have ⟨p0, p1, p2, p3, p4⟩ := P4
      have HAr : Lim wr wr.heap.size A n n (digs v) := (HA.out.lim.tight.below B4).more B4.size
      go_wp2_with fail
      refine (HD'.out A A4 n n n4 c4 v gk wr HAr hl4 (by omega) (by omega) hg0).mono ?_
      rintro e w5 ⟨A5, n5, c5, us, A6, n6, c6, vs, rfl, hl5, hl6, hv5, hv6, hn5, hb5⟩
      have B5 := B4.trans (hb5.mono B4.size)
      have P5 := P4.after hb5
      have R5 := R4.after hb5
      have h4' := (hl4.below hb5).more hb5.size
      obtain ⟨q, hq⟩ : ∃ q, q = v / gk := ⟨_, rfl⟩
      rw [← hq] at hv5
      have hqv : v < gk * (q + 1) := by rw [hq, Nat.mul_comm]; exact Nat.lt_mul_of_div_lt (Nat.lt_succ_self _) hg0
      have HQV := Lib.hid hqv
      have HQ := Lib.hid hq
      obtain ⟨k5, hk5⟩ : ∃ k5, k5 = (digs q).length := ⟨_, rfl⟩
      have HT5 := Lib.hid (trim_val A5 n5 c5 _ q k5 us w5 hl5 hv5 hk5)
      have hl5' := hl5.trimv hv5 hk5
      have hk5n : k5 ≤ n := by rw [hk5, ← HLEN.out, hq]; exact digs_len_mono (Nat.div_le_self v gk)
      clear hv5 hv6 hk5 hq hqv HAr hl6 p0 p1 p2 p3 p4
      go_wp2_with fail
      refine HT5.out.mono ?_
      rintro e w6 ⟨rfl, rfl⟩
      go_wp2_with fail
      refine (sum_any A4 A5 n4 c4 k5 k5 _ _ (digs gk) (digs q) _ h4' hl5' (Nat.le_refl _) (Nat.le_refl _) (by omega) (by omega)).mono ?_
      rintro e w7 ⟨ts, ⟨A7, n7, c7, rfl, hl7, hb7⟩, hv7, hn7⟩
      rw [val_digs, val_digs] at hv7
      have B7 := B5.trans (hb7.mono B5.size)
      have P7 := P5.after hb7
      have R7 := R5.after hb7
      have h4'' := (h4'.below hb7).more hb7.size
      have hn7' : n7 ≤ n + 2 := by rw [← hl7.len, hn7]; omega
      obtain ⟨k7, hk7⟩ : ∃ k7, k7 = (digs (gk + q)).length := ⟨_, rfl⟩
      have HT7 := Lib.hid (trim_val A7 n7 c7 _ (gk + q) k7 ts w7 hl7 hv7 hk7)
      have hl7' := hl7.trimv hv7 hk7
      have hk7n : k7 ≤ n7 := by have h1 := digs_len_val hl7.lt; rw [hv7, ← hk7, hl7.len] at h1; exact h1
      clear hv7 hk7 hn7
      go_wp2_with fail
      refine HT7.out.mono ?_
      rintro e w8 ⟨rfl, rfl⟩
      go_wp2_with fail
      refine (shiftDown_any A7 k7 k7 _ 1 (digs (gk + q)) _ hl7' (Nat.le_refl _) (by omega) (by omega)).mono ?_
      rintro e w9 ⟨rs, ⟨A9, n9, c9, rfl, hl9, hb9⟩, hv9, hn9⟩
      rw [val_digs, Nat.pow_one] at hv9
      have B9 := B7.trans (hb9.mono B7.size)
      have P9 := P7.after hb9
      have R9 := R7.after hb9
      have h49 := (h4''.below hb9).more hb9.size
      obtain ⟨m, hm⟩ : ∃ m, m = (gk + q) / 2 := ⟨_, rfl⟩
      rw [← hm] at hv9
      obtain ⟨k9, hk9⟩ : ∃ k9, k9 = (digs m).length := ⟨_, rfl⟩
      have HT9 := Lib.hid (trim_val A9 n9 c9 _ m k9 rs w9 hl9 hv9 hk9)
      have hl9' := hl9.trimv hv9 hk9
      have HM := Lib.hid hm
      have HK9 := Lib.hid hk9
      clear hv9 hk9 hn9 hm
      go_wp2_with fail
      refine HT9.out.mono ?_
      rintro e w10 ⟨rfl, rfl⟩
      have HO := order_any A9 A4 k9 k9 n4 c4 _ _ (digs m) (digs gk) w9 hl9' h49
      rw [ordV_digs] at HO
      have HO' := Lib.hid HO
      clear HO
      by_cases hmg : gk ≤ m
      · have ho : (0 : Int) ≤ cmpN (m : Int) (gk : Int) := by unfold cmpN; split <;> (try split) <;> omega
        generalize cmpN (m : Int) (gk : Int) = t at *
        go_wp2_with fail
        refine HO'.out.mono ?_
        rintro e w11 ⟨rfl, hd11⟩
        have h411 := (h49.drawn hd11).more (B' := w11.heap.size) (by rw [hd11.size]; exact Nat.le_refl _)
        have B11 := B9.trans (hd11.below _)
        have R11 := R9.after (hd11.below _)
        have hfin : gk * gk ≤ v := by
          have h1 : gk ≤ q := by have := HM.out; omega
          rw [HQ.out] at h1
          have h2 := Nat.div_mul_le_self v gk
          exact Nat.le_trans (Nat.mul_le_mul_right gk h1) h2
        have HF := Lib.hid hfin
        clear hfin
        go_wp2_with fail
        refine (build_val false A4 n4 c4 gk (gk : Int) (digs gk) _ h411 (val_digs gk) rfl).mono ?_
        rintro e w12 ⟨g12, A12, n12, c12, rfl, hi12, hb12⟩
        have ⟨r0, r1, r2, r3, r4⟩ := R11.after hb12
        go_wp2
        exact bodyPost_ret (v := .tuple #[.agg #[.bool g12, .slice A12 n12 c12], .int .i64 0]) (by simp [results, Tryd.results43, go_sem, r0, r1]) rfl
          ⟨gk, ⟨_, _, _, _, rfl, hi12.stored r0 r1 rfl rfl _ _, ((B11.trans (hb12.mono B11.size)).setCell (by simp) _).setCell (by simp) _⟩, HF.out, hvg.out⟩
      · have ho : cmpN (m : Int) (gk : Int) < 0 := by unfold cmpN; rw [if_pos (by omega)]; omega
        generalize cmpN (m : Int) (gk : Int) = t at *
        go_wp2_with fail
        refine HO'.out.mono ?_
        rintro e w11 ⟨rfl, hd11⟩
        have h911 := (hl9'.drawn hd11).more (B' := w11.heap.size) (by rw [hd11.size]; exact Nat.le_refl _)
        have B11 := B9.trans (hd11.below _)
        have R11 := R9.after (hd11.below _)
        have P11 := P9.after (hd11.below _)
        have hnew : v < (m + 1) * (m + 1) := by rw [HM.out]; exact newton_step HQV.out
        have hm0 : 0 < m := by
          have h1 := HM.out
          rcases Nat.lt_or_ge gk 2 with h2 | h2
          · have h3 : gk = 1 := by omega
            have h4 : q = v := by rw [HQ.out, h3, Nat.div_one]
            have := HV0.out
            omega
          · omega
        have hk9n : k9 ≤ n + 1 := by
          rw [HK9.out]
          refine Nat.le_trans (digs_len_mono (show m ≤ gk by omega)) ?_
          rw [hl4.len]; exact hn4
        have HN := Lib.hid hnew
        clear hnew
        go_wp2
        go_roundg m
        case measure => omega
        case rel => exact ⟨A9, k9, k9, rfl, h911, hm0, HN.out, hk9n, P11, R11, B11⟩
end Go.Proofs.YtgpnpgfpcmiecaaDoor
