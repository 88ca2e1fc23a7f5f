/- Contracts of integer.Of, Neg, Abs, withSign. Contracts of integer.word. Contracts of integer.words, gcdOfWords. Contracts of integer.Sign, Valid, Small, torsionref01.Sign, Valid. Plain mathematics of Euclid's extended algorithm. Contract of integer.sum. Contract of integer.difference. Contracts of cmp.Compare and integer.order. Plain mathematics: sizes of products and powers, Newton's iteration. -/
import Derived.Test.YtgpnpgfpcmiecaaDoorVG0Words
namespace Go.Proofs.YtgpnpgfpcmiecaaDoor
open Go.RowKit
/-- A result that was stored into a new struct of the call's own. -/
theorem RetInt.stored {w W w1 : World} {neg : Bool} {A : Option Addr} {n c g : Nat} {z : Int} {a0 a1 : Value} (hi : IsInt w1 neg A n c z) (hW : Below w.heap.size w W) (hb : Below W.heap.size W w1) (hg : w.heap.size ≤ g)
    (h0 : w1.cell? ⟨g, 0, none⟩ = some a0) (h1 : w1.cell? ⟨g, 1, none⟩ = some a1) (n0 : noLimb a0 = true) (n1 : noLimb a1 = true) :
    RetInt w z (.returned (.agg #[.bool neg, .slice A n c])) ((w1.setCell ⟨g, 0, none⟩ (.bool neg)).setCell ⟨g, 1, none⟩ (.slice A n c)) :=
  ⟨_, _, _, _, rfl, hi.stored h0 h1 n0 n1 _ _, ((hW.trans (hb.mono hW.size)).setCell hg _).setCell hg _⟩
set_option maxHeartbeats 400000 in
theorem of_any (n : Int) (w : World) (h1 : -9223372036854775808 ≤ n) (h2 : n ≤ 9223372036854775807) :
    Calls Tryd.prog 13 #[.int .i64 n] w (RetInt w n) := by
  by_cases h0 : n < 0
  · have H1 := fun W => ofWord_any n.natAbs W (by omega)
    have H2 := fun A k c W h => build_digs true A k c n.natAbs n W h (by unfold zOf; simp; omega)
    have HW := Lib.hid (wrap_neg_wrap n h1 h0)
    have H1' := Lib.hid H1
    have H2' := Lib.hid H2
    clear H1 H2
    go_enter Tryd.func13, Tryd.ntmps13
    go_wp2_with fail
    rw [HW.out]
    refine (H1'.out _).mono ?_
    rintro e w1 ⟨A1, n1, c1, rfl, hl1, hb1⟩
    have S0 := Lib.hid ((Slot2.new w (.bool false) (.slice none 0 0) 28).after hb1)
    go_wp2_with fail
    refine (H2'.out _ _ _ _ hl1).mono ?_
    rintro e w2 ⟨neg2, A2, n2, c2, rfl, hi2, hb2⟩
    obtain ⟨k0, k1, f0, f1, _⟩ := S0.out.after hb2
    go_wp2
    exact bodyPost_ret (v := .agg #[.bool neg2, .slice A2 n2 c2]) (by simp [results, Tryd.results13, go_sem, k0, k1]) rfl
      (RetInt.stored hi2 (((Below.refl _ _).alloc (Nat.le_refl _) _).trans (hb1.mono (by simp))) hb2 (Nat.le_refl _) k0 k1 rfl rfl)
  · obtain ⟨n, rfl⟩ := Int.eq_ofNat_of_zero_le (show 0 ≤ n by omega)
    have H1 := fun W => ofWord_any n W (by omega)
    have H2 := fun A k c W h => build_digs false A k c n n W h rfl
    have H1' := Lib.hid H1
    have H2' := Lib.hid H2
    clear H1 H2
    go_enter Tryd.func13, Tryd.ntmps13
    go_wp2_with fail
    refine (H1'.out _).mono ?_
    rintro e w1 ⟨A1, n1, c1, rfl, hl1, hb1⟩
    have S0 := Lib.hid ((Slot2.new w (.bool false) (.slice none 0 0) 28).after hb1)
    go_wp2_with fail
    refine (H2'.out _ _ _ _ hl1).mono ?_
    rintro e w2 ⟨neg2, A2, n2, c2, rfl, hi2, hb2⟩
    obtain ⟨k0, k1, f0, f1, _⟩ := S0.out.after hb2
    go_wp2
    exact bodyPost_ret (v := .agg #[.bool neg2, .slice A2 n2 c2]) (by simp [results, Tryd.results13, go_sem, k0, k1]) rfl
      (RetInt.stored hi2 (((Below.refl _ _).alloc (Nat.le_refl _) _).trans (hb1.mono (by simp))) hb2 (Nat.le_refl _) k0 k1 rfl rfl)

set_option maxHeartbeats 400000 in
theorem neg_any (neg : Bool) (A : Option Addr) (n c : Nat) (z : Int) (w : World) (ha : IsInt w neg A n c z) (hn : n ≤ 1000000) :
    Calls Tryd.prog 21 #[.agg #[.bool neg, .slice A n c]] w (RetInt w (-z)) := by
  have H1 := fun W (hW : Below w.heap.size w W) => clone_any A n c w.heap.size (digs z.natAbs) W (ha.lim.below hW) hW.size hn
  have H2 := fun A k c W h => build_digs (!neg) A k c z.natAbs (-z) W h (by rw [ha.sign]; exact zOf_not z)
  have H1' := Lib.hid H1
  have H2' := Lib.hid H2
  clear H1 H2
  obtain ⟨HB, P0, R0⟩ := frame11 w (.bool neg) (.slice A n c)
  go_enter Tryd.func21, Tryd.ntmps21
  go_wp2_with fail
  go_region_held3 (fun W => W.cell? ⟨w.heap.size, 0, none⟩ = some (.bool neg) ∧ W.cell? ⟨w.heap.size, 1, none⟩ = some (.slice A n c)) (first | go_keep | exact ⟨P1.1, P1.2.1⟩ | exact ⟨P2.1, P2.2.1⟩)
    (first | (go_at_call 54; refine (H1'.out _ ?_).mono ?_; (first | exact HB | exact HB.drew | exact Below.drewN' HB _); rintro e w1 ⟨A1, n1, c1, rfl, hl1, hb1⟩; have B1 := Below.trans (by first | exact HB | exact HB.drew | exact Below.drewN' HB _) (hb1.mono HB.size); have P1 := Slot2.after (by first | exact P0 | exact P0.drew | exact P0.drewN _) hb1; have R1 := Slot2.after (by first | exact R0 | exact R0.drew | exact R0.drewN _) hb1) | (go_at_call 46; refine (H2'.out _ _ _ _ hl1).mono ?_; rintro e w2 ⟨neg2, A2, n2, c2, rfl, hi2, hb2⟩; have P2 := P1.after hb2; obtain ⟨k0, k1, f0, f1, _⟩ := R1.after hb2))
  go_wp2
  exact bodyPost_ret (v := .agg #[.bool neg2, .slice A2 n2 c2]) (by simp [results, Tryd.results21, go_sem, k0, k1]) rfl
    (RetInt.stored hi2 B1 hb2 (by omega) k0 k1 rfl rfl)

set_option maxHeartbeats 400000 in
theorem abs_any (neg : Bool) (A : Option Addr) (n c : Nat) (z : Int) (w : World) (ha : IsInt w neg A n c z) (hn : n ≤ 1000000) :
    Calls Tryd.prog 45 #[.agg #[.bool neg, .slice A n c]] w (RetInt w (z.natAbs : Int)) := by
  have H1 := fun W (hW : Below w.heap.size w W) => clone_any A n c w.heap.size (digs z.natAbs) W (ha.lim.below hW) hW.size hn
  have H2 := fun A k c W h => build_digs false A k c z.natAbs (z.natAbs : Int) W h rfl
  have H1' := Lib.hid H1
  have H2' := Lib.hid H2
  clear H1 H2
  obtain ⟨HB, P0, R0⟩ := frame11 w (.bool neg) (.slice A n c)
  go_enter Tryd.func45, Tryd.ntmps45
  go_wp2_with fail
  refine (H1'.out _ HB).mono ?_
  rintro e w1 ⟨A1, n1, c1, rfl, hl1, hb1⟩
  have B1 := HB.trans (hb1.mono HB.size)
  have R1 := R0.after hb1
  go_wp2_with fail
  refine (H2'.out _ _ _ _ hl1).mono ?_
  rintro e w2 ⟨neg2, A2, n2, c2, rfl, hi2, hb2⟩
  obtain ⟨k0, k1, f0, f1, _⟩ := R1.after hb2
  go_wp2
  exact bodyPost_ret (v := .agg #[.bool neg2, .slice A2 n2 c2]) (by simp [results, Tryd.results45, go_sem, k0, k1]) rfl
    (RetInt.stored hi2 B1 hb2 (by omega) k0 k1 rfl rfl)

set_option maxHeartbeats 400000 in
theorem withSign_any (neg s : Bool) (A : Option Addr) (n c : Nat) (z : Int) (w : World) (ha : IsInt w neg A n c z) :
    Calls Tryd.prog 76 #[.agg #[.bool neg, .slice A n c], .bool s] w (RetInt w (if s then -z else z)) := by
  cases s
  · have H2 := fun W (hW : Below w.heap.size w W) => build_any neg A n c w.heap.size (digs z.natAbs) W (ha.lim.below hW) hW.size
    have e1 : zOf neg (val (digs z.natAbs)) = (if false = true then -z else z) := by rw [val_digs, ha.sign]; exact zOf_self z
    simp only [e1] at H2
    clear e1
    have H2' := Lib.hid H2
    clear H2
    obtain ⟨HB, P0, R0⟩ := frame11 w (.bool neg) (.slice A n c)
    go_enter Tryd.func76, Tryd.ntmps76
    go_wp2_with fail
    refine (H2'.out _ HB).mono ?_
    rintro e w2 ⟨neg2, A2, n2, c2, rfl, hi2, hb2⟩
    obtain ⟨k0, k1, f0, f1, _⟩ := R0.after hb2
    go_wp2
    exact bodyPost_ret (v := .agg #[.bool neg2, .slice A2 n2 c2]) (by simp [results, Tryd.results76, go_sem, k0, k1]) rfl
      (RetInt.stored hi2 HB hb2 (by omega) k0 k1 rfl rfl)
  · have H2 := fun W (hW : Below w.heap.size w W) => build_any (!neg) A n c w.heap.size (digs z.natAbs) W (ha.lim.below hW) hW.size
    have e1 : zOf (!neg) (val (digs z.natAbs)) = (if true = true then -z else z) := by rw [val_digs, ha.sign]; exact zOf_not z
    simp only [e1] at H2
    clear e1
    have H2' := Lib.hid H2
    clear H2
    obtain ⟨HB, P0, R0⟩ := frame11 w (.bool neg) (.slice A n c)
    go_enter Tryd.func76, Tryd.ntmps76
    go_wp2_with fail
    refine (H2'.out _ HB).mono ?_
    rintro e w2 ⟨neg2, A2, n2, c2, rfl, hi2, hb2⟩
    obtain ⟨k0, k1, f0, f1, _⟩ := R0.after hb2
    go_wp2
    exact bodyPost_ret (v := .agg #[.bool neg2, .slice A2 n2 c2]) (by simp [results, Tryd.results76, go_sem, k0, k1]) rfl
      (RetInt.stored hi2 HB hb2 (by omega) k0 k1 rfl rfl)
end Go.Proofs.YtgpnpgfpcmiecaaDoor
namespace Go.Proofs.YtgpnpgfpcmiecaaDoor
open Go.RowKit
set_option maxHeartbeats 400000 in
theorem word_any (A : Option Addr) (n c B : Nat) (xs : List Nat) (w : World) (ha : Lim w B A n c xs) :
    Calls Tryd.prog 48 #[.slice A n c] w fun e w' => e = .returned (.tuple #[.int .u64 ((if n ≤ 2 then val xs else 0 : Nat) : Int), .bool (decide (n ≤ 2))]) ∧ Drawn w w' := by
  have hl := ha.len
  rcases n with _ | _ | _ | n
  · have hx : xs = [] := List.eq_nil_of_length_eq_zero hl
    subst hx
    go_enter Tryd.func48, Tryd.ntmps48
    go_wp2
    go_ret2
    exact ⟨by simp [val], Drawn.refl _⟩
  · obtain ⟨ad, rfl, _, x, hx, hxl, hcx⟩ := ha.at_ (show 0 < 1 by omega)
    have hv : (if 0 + 1 ≤ 2 then val xs else 0) = x := by
      match xs, hl with
      | [a], _ => simp [val, hx.out]
    rw [hv]
    have hc0 : w.cell? ad = some (.int .u32 (x : Int)) := hcx
    clear hv hcx hl
    go_enter Tryd.func48, Tryd.ntmps48
    go_wp2
    go_ret2
    exact ⟨rfl, Drawn.refl _⟩
  · obtain ⟨ad, rfl, _, x, hx, hxl, hcx⟩ := ha.at_ (show 0 < 2 by omega)
    obtain ⟨ad', e, _, y, hy, hyl, hcy⟩ := ha.at_ (show 1 < 2 by omega)
    obtain rfl := Option.some.inj e
    have hv : (if 0 + 1 + 1 ≤ 2 then val xs else 0) = x + 4294967296 * y := by
      match xs, hl with
      | [a, b], _ => simp [val, hx.out, hy.out]
    rw [hv]
    have hc0 : w.cell? ad = some (.int .u32 (x : Int)) := hcx
    have hc1 : w.cell? { block := ad.block, off := ad.off + 1 } = some (.int .u32 (y : Int)) := hcy
    clear hv hcx hcy hl
    go_enter Tryd.func48, Tryd.ntmps48
    go_wp2
    go_quiet (fail)
    go_wp2
    go_ret2
    exact ⟨retT (or_limbs x y hxl hyl), Drawn.refl _ |>.drewN _⟩
  · have hv : (if n + 1 + 1 + 1 ≤ 2 then val xs else 0) = 0 := if_neg (by omega)
    have hv2 : decide (n + 1 + 1 + 1 ≤ 2) = false := decide_eq_false (by omega)
    rw [hv, hv2]
    have b1 : ((n : Int) + 1 + 1 + 1 == 0) = false := by simp; omega
    have b2 : ((n : Int) + 1 + 1 + 1 == 1) = false := by simp; omega
    have b3 : ((n : Int) + 1 + 1 + 1 == 2) = false := by simp; omega
    clear hv hv2 hl
    go_enter Tryd.func48, Tryd.ntmps48
    go_wp2
    go_ret2
    exact ⟨rfl, Drawn.refl _⟩
end Go.Proofs.YtgpnpgfpcmiecaaDoor
namespace Go.Proofs.YtgpnpgfpcmiecaaDoor
open Go.RowKit
set_option maxHeartbeats 400000 in
theorem words_yes (A A' : Option Addr) (n c m d B B' : Nat) (xs ys : List Nat) (w : World) (ha : Lim w B A n c xs) (hb : Lim w B' A' m d ys) (h1 : n ≤ 2) (h2 : m ≤ 2) :
    Calls Tryd.prog 62 #[.slice A n c, .slice A' m d] w fun e w' => e = .returned (.tuple #[.int .u64 ((val xs : Nat) : Int), .int .u64 ((val ys : Nat) : Int), .bool true]) ∧ Drawn w w' := by
  have H1 := word_any A n c B xs w ha
  have H2 := fun W hd => word_any A' m d B' ys W (hb.drawn (w := w) hd)
  rw [if_pos h1, decide_eq_true h1] at H1
  simp only [if_pos h2, decide_eq_true h2] at H2
  have H1' := Lib.hid H1
  have H2' := Lib.hid H2
  generalize val xs = x at *
  generalize val ys = y at *
  clear H1 H2
  go_enter Tryd.func62, Tryd.ntmps62
  go_wp2_with fail
  refine H1'.out.mono ?_
  rintro e w1 ⟨rfl, hd1⟩
  go_wp2_with fail
  refine (H2'.out _ hd1).mono ?_
  rintro e w2 ⟨rfl, hd2⟩
  go_wp2
  go_ret3
  exact ⟨rfl, hd1.trans hd2⟩
set_option maxHeartbeats 400000 in
theorem words_no (A A' : Option Addr) (n c m d B B' : Nat) (xs ys : List Nat) (w : World) (ha : Lim w B A n c xs) (hb : Lim w B' A' m d ys) (h : ¬ (n ≤ 2 ∧ m ≤ 2)) :
    Calls Tryd.prog 62 #[.slice A n c, .slice A' m d] w fun e w' => (∃ x y : Int, e = .returned (.tuple #[.int .u64 x, .int .u64 y, .bool false])) ∧ Drawn w w' := by
  have H1 := word_any A n c B xs w ha
  have H2 := fun W hd => word_any A' m d B' ys W (hb.drawn (w := w) hd)
  generalize ((if n ≤ 2 then val xs else 0 : Nat) : Int) = x at H1
  generalize ((if m ≤ 2 then val ys else 0 : Nat) : Int) = y at H2
  by_cases h1 : n ≤ 2
  · have h2 : ¬ m ≤ 2 := fun h2 => h ⟨h1, h2⟩
    rw [decide_eq_true h1] at H1
    simp only [decide_eq_false h2] at H2
    have H1' := Lib.hid H1
    have H2' := Lib.hid H2
    clear H1 H2 h
    go_enter Tryd.func62, Tryd.ntmps62
    go_wp2_with fail
    refine H1'.out.mono ?_
    rintro e w1 ⟨rfl, hd1⟩
    go_wp2_with fail
    refine (H2'.out _ hd1).mono ?_
    rintro e w2 ⟨rfl, hd2⟩
    go_wp2
    go_ret3
    exact ⟨⟨_, _, rfl⟩, hd1.trans hd2⟩
  · rw [decide_eq_false h1] at H1
    generalize decide (m ≤ 2) = b at H2
    have H1' := Lib.hid H1
    have H2' := Lib.hid H2
    clear H1 H2 h
    go_enter Tryd.func62, Tryd.ntmps62
    go_wp2_with fail
    refine H1'.out.mono ?_
    rintro e w1 ⟨rfl, hd1⟩
    go_wp2_with fail
    refine (H2'.out _ hd1).mono ?_
    rintro e w2 ⟨rfl, hd2⟩
    go_wp2
    go_ret3
    exact ⟨⟨_, _, rfl⟩, hd1.trans hd2⟩
set_option maxHeartbeats 400000 in
theorem gcdWords_any (a b : Nat) (w : World) (ha : a < 18446744073709551616) (hb : b < 18446744073709551616) :
    Calls Tryd.prog 63 #[.int .u64 (a : Int), .int .u64 (b : Int)] w fun e w' => e = .returned (.int .u64 ((Nat.gcd a b : Nat) : Int)) ∧ Drawn w w' := by
  go_enter Tryd.func63, Tryd.ntmps63
  go_wp2
  go_loopw [0, 1] (fun s t wr => ∃ x y : Nat, s = .int .u64 x ∧ t = .int .u64 y ∧ x < 18446744073709551616 ∧ y < 18446744073709551616 ∧ Hid (Nat.gcd x y = Nat.gcd a b) ∧ Drawn w wr) (fun _ t _ => (intOf t).toNat)
  case atStart => exact ⟨a, b, rfl, rfl, ha, hb, rfl, Drawn.refl w⟩
  case round =>
    obtain ⟨x, y, rfl, rfl, hx, hy, hg, hd⟩ := hrel
    rcases Nat.eq_zero_or_pos y with h0 | h0
    · subst h0
      go_wp2
      go_ret
      exact ⟨retI (by rw [← hg.out, Nat.gcd_zero_right]), hd⟩
    · have hb1 : ((y : Int) != 0) = true := by simp; omega
      have hb2 : ((y : Int) == 0) = false := by simp; omega
      go_wp2
      go_quiet (fail)
      go_wp2
      have hm := Nat.mod_lt x h0
      have e1 : (((x % y : Nat)) : Int) = (x : Int) % y := Int.natCast_emod x y
      refine ⟨⟨y, x % y, rfl, by rw [e1], hy, by omega, ?_, hd.drewN _⟩, ?_⟩
      · rw [Hid, ← hg.out, Nat.gcd_comm x y, Nat.gcd_rec y x, Nat.gcd_comm]
      · rw [← e1]; simp [intOf]; omega
end Go.Proofs.YtgpnpgfpcmiecaaDoor
namespace Go.Proofs.YtgpnpgfpcmiecaaDoor
open Go.RowKit
def sgn (z : Int) : Int := if z < 0 then -1 else if 0 < z then 1 else 0
theorem len_of {w : World} {neg : Bool} {A : Option Addr} {n c : Nat} {z : Int} (h : IsInt w neg A n c z) : n = 0 ↔ z = 0 := by
  rw [← h.lim.len, digs_len_zero]; omega
set_option maxHeartbeats 400000 in
theorem rsign_any (neg : Bool) (A : Option Addr) (n c : Nat) (z : Int) (w : World) (ha : IsInt w neg A n c z) :
    Calls Tryd.prog 25 #[.agg #[.bool neg, .slice A n c]] w fun e w' => e = .returned (.int .i64 (sgn z)) ∧ Below w.heap.size w w' := by
  have hz := len_of ha
  have hs := ha.sign
  rcases Nat.eq_zero_or_pos n with h0 | h0
  · have h1 : sgn z = 0 := by rw [hz.1 h0]; rfl
    rw [h1]
    subst h0
    clear hz hs h1
    go_enter Tryd.func25, Tryd.ntmps25
    go_wp2
    go_ret
    exact ⟨rfl, (Below.refl _ _).alloc (Nat.le_refl _) _⟩
  · have hb1 : ((n : Int) == 0) = false := by simp; omega
    by_cases h2 : z < 0
    · have h1 : sgn z = -1 := if_pos h2
      have h3 : neg = true := by rw [hs, decide_eq_true h2]
      rw [h1]
      subst h3
      clear hz hs h1
      go_enter Tryd.func25, Tryd.ntmps25
      go_wp2
      go_ret
      exact ⟨rfl, (Below.refl _ _).alloc (Nat.le_refl _) _⟩
    · have h1 : sgn z = 1 := by unfold sgn; rw [if_neg h2, if_pos (by omega)]
      have h3 : neg = false := by rw [hs, decide_eq_false h2]
      rw [h1]
      subst h3
      clear hz hs h1
      go_enter Tryd.func25, Tryd.ntmps25
      go_wp2
      go_ret
      exact ⟨rfl, (Below.refl _ _).alloc (Nat.le_refl _) _⟩
set_option maxHeartbeats 400000 in
theorem sign_any (neg : Bool) (A : Option Addr) (n c : Nat) (z : Int) (w : World) (ha : IsInt w neg A n c z) :
    Calls Tryd.prog 20 #[.agg #[.bool neg, .slice A n c]] w fun e w' => e = .returned (.int .i64 (sgn z)) ∧ Below w.heap.size w w' := by
  have H := fun W (hW : Below w.heap.size w W) => tidy_any neg A n c w.heap.size (digs z.natAbs) W (ha.lim.below hW) hW.size
  have e1 : zOf neg (val (digs z.natAbs)) = z := by rw [val_digs, ha.sign]; exact zOf_self z
  rw [e1, val_digs] at H
  have hz : (digs z.natAbs).length = 0 ↔ z = 0 := by rw [digs_len_zero]; omega
  generalize (digs z.natAbs).length = k at *
  have P0 := Slot2.new w (.bool neg) (.slice A n c) 28
  have HB := (Below.refl w.heap.size w).alloc (Nat.le_refl _) (.cells #[.bool neg, .slice A n c] 28)
  by_cases h2 : z < 0
  · have h1 : sgn z = -1 := if_pos h2
    rw [decide_eq_true h2] at H
    rw [h1]
    have H' := Lib.hid H
    clear hz h1 H e1
    go_enter Tryd.func20, Tryd.ntmps20
    go_wp2_with fail
    refine (H'.out _ HB).mono ?_
    rintro e w1 ⟨rfl, hb1⟩
    obtain ⟨k0, k1, f0, f1, _⟩ := P0.after hb1
    go_wp2
    go_ret
    exact ⟨rfl, ((HB.trans (hb1.mono HB.size)).setCell (by simp) _).setCell (by simp) _⟩
  · rw [decide_eq_false h2] at H
    by_cases h0 : z = 0
    · have h1 : sgn z = 0 := by rw [h0]; rfl
      obtain rfl : k = 0 := hz.2 h0
      rw [h1]
      have H' := Lib.hid H
      clear hz h1 H e1
      go_enter Tryd.func20, Tryd.ntmps20
      go_wp2_with fail
      refine (H'.out _ HB).mono ?_
      rintro e w1 ⟨rfl, hb1⟩
      obtain ⟨k0, k1, f0, f1, _⟩ := P0.after hb1
      go_wp2
      go_ret
      exact ⟨rfl, ((HB.trans (hb1.mono HB.size)).setCell (by simp) _).setCell (by simp) _⟩
    · have h1 : sgn z = 1 := by unfold sgn; rw [if_neg h2, if_pos (by omega)]
      have hk : 0 < k := by omega
      rw [h1]
      have H' := Lib.hid H
      clear hz h1 H e1
      go_enter Tryd.func20, Tryd.ntmps20
      go_wp2_with fail
      refine (H'.out _ HB).mono ?_
      rintro e w1 ⟨rfl, hb1⟩
      obtain ⟨k0, k1, f0, f1, _⟩ := P0.after hb1
      go_wp2
      go_ret
      exact ⟨rfl, ((HB.trans (hb1.mono HB.size)).setCell (by simp) _).setCell (by simp) _⟩
end Go.Proofs.YtgpnpgfpcmiecaaDoor
namespace Go.Proofs.YtgpnpgfpcmiecaaDoor
/-- What holds of the rows (g, s, t) and (r, s', t') for the numbers a and b. -/
structure ExtInv (a b g r : Nat) (s s' t t' : Int) : Prop where
  e1 : s * a + t * b = g
  e2 : s' * a + t' * b = r
  a1 : s'.natAbs * g + s.natAbs * r = b
  a2 : t'.natAbs * g + t.natAbs * r = a
  g1 : (0 ≤ s ∧ s' ≤ 0) ∨ (s ≤ 0 ∧ 0 ≤ s')
  g2 : (0 ≤ t ∧ t' ≤ 0) ∨ (t ≤ 0 ∧ 0 ≤ t')
  o1 : s.natAbs ≤ 1 ∨ 2 * s.natAbs ≤ s'.natAbs ∨ (s.natAbs ≤ s'.natAbs ∧ r ≠ 0)
  o2 : t.natAbs ≤ 1 ∨ 2 * t.natAbs ≤ t'.natAbs ∨ (t.natAbs ≤ t'.natAbs ∧ r ≠ 0)
  lt : r < g ∨ (s'.natAbs ≤ 1 ∧ t'.natAbs ≤ 1)
  gc : Nat.gcd g r = Nat.gcd a b
theorem ExtInv.start (a b : Nat) : ExtInv a b a b 1 0 0 1 :=
  ⟨by omega, by omega, by simp, by simp, .inl ⟨by omega, by omega⟩, .inr ⟨by omega, by omega⟩, .inl (by decide), .inl (by decide), .inr ⟨by decide, by decide⟩, rfl⟩
theorem natAbs_step {s s' : Int} (q : Nat) (h : (0 ≤ s ∧ s' ≤ 0) ∨ (s ≤ 0 ∧ 0 ≤ s')) :
    (s - q * s').natAbs = s.natAbs + q * s'.natAbs ∧ ((0 ≤ s' ∧ s - q * s' ≤ 0) ∨ (s' ≤ 0 ∧ 0 ≤ s - q * s')) := by
  rcases h with ⟨h1, h2⟩ | ⟨h1, h2⟩
  · obtain ⟨x, rfl⟩ := Int.eq_ofNat_of_zero_le h1
    obtain ⟨y, hy⟩ := Int.eq_ofNat_of_zero_le (show 0 ≤ -s' by omega)
    obtain rfl : s' = -(y : Int) := by omega
    have e : (x : Int) - q * -(y : Int) = ((x + q * y : Nat) : Int) := by rw [Int.mul_neg, Int.natCast_add, Int.natCast_mul]; omega
    rw [e]
    refine ⟨by rw [Int.natAbs_natCast, Int.natAbs_natCast, Int.natAbs_neg, Int.natAbs_natCast], .inr ⟨by omega, by omega⟩⟩
  · obtain ⟨y, rfl⟩ := Int.eq_ofNat_of_zero_le h2
    obtain ⟨x, hx⟩ := Int.eq_ofNat_of_zero_le (show 0 ≤ -s by omega)
    obtain rfl : s = -(x : Int) := by omega
    have e : -(x : Int) - q * (y : Int) = -((x + q * y : Nat) : Int) := by rw [Int.natCast_add, Int.natCast_mul]; omega
    rw [e]
    refine ⟨by rw [Int.natAbs_neg, Int.natAbs_natCast, Int.natAbs_neg, Int.natAbs_natCast, Int.natAbs_natCast], .inl ⟨by omega, by omega⟩⟩
theorem ord_step {x y z q r2 : Nat} (hz : z = x + q * y) (h0 : q = 0 → y ≤ 1) (h1 : q = 1 → r2 = 0 → y ≤ 1) : y ≤ 1 ∨ 2 * y ≤ z ∨ (y ≤ z ∧ r2 ≠ 0) := by
  rcases Nat.lt_or_ge q 2 with h | h
  · rcases Nat.eq_zero_or_pos q with e | e
    · exact .inl (h0 e)
    · have e : q = 1 := by omega
      subst e
      by_cases hr : r2 = 0
      · exact .inl (h1 rfl hr)
      · exact .inr (.inr ⟨by omega, hr⟩)
  · have : 2 * y ≤ q * y := Nat.mul_le_mul_right y h
    exact .inr (.inl (by omega))
theorem ExtInv.step {a b g r : Nat} {s s' t t' : Int} (h : ExtInv a b g r s s' t t') (hr : 0 < r) :
    ExtInv a b r (g % r) s' (s - (g / r : Nat) * s') t' (t - (g / r : Nat) * t') := by
  have hd := Nat.div_add_mod g r
  have hm := Nat.mod_lt g hr
  obtain ⟨n1, k1⟩ := natAbs_step (g / r) h.g1
  obtain ⟨n2, k2⟩ := natAbs_step (g / r) h.g2
  have q0 : g / r = 0 → s'.natAbs ≤ 1 ∧ t'.natAbs ≤ 1 := fun e => by
    rcases h.lt with l | l
    · exfalso
      have : 0 < g / r := Nat.div_pos (Nat.le_of_lt l) hr
      omega
    · exact l
  have q1 : g / r = 1 → g % r = 0 → s'.natAbs ≤ 1 ∧ t'.natAbs ≤ 1 := fun e1 e2 => by
    rw [e1, e2] at hd
    rcases h.lt with l | l
    · omega
    · exact l
  have hgc : Nat.gcd r (g % r) = Nat.gcd a b := by rw [← h.gc, Nat.gcd_comm g r, Nat.gcd_rec r g, Nat.gcd_comm]
  have hdi : (g : Int) = (r : Int) * ((g / r : Nat) : Int) + ((g % r : Nat) : Int) := by exact_mod_cast hd.symm
  generalize g / r = q at *
  generalize g % r = r2 at *
  refine ⟨h.e2, ?_, ?_, ?_, ?_, ?_, ord_step n1 (fun e => (q0 e).1) (fun e1 e2 => (q1 e1 e2).1), ord_step n2 (fun e => (q0 e).2) (fun e1 e2 => (q1 e1 e2).2), .inl hm, hgc⟩
  · have e1 := h.e1
    have e2 := h.e2
    have : (s - (q : Int) * s') * a + (t - (q : Int) * t') * b = (s * a + t * b) - q * (s' * a + t' * b) := by
      rw [Int.sub_mul, Int.sub_mul, Int.mul_add, Int.mul_assoc, Int.mul_assoc]; omega
    rw [this, e1, e2, hdi, Int.mul_comm (r : Int)]; omega
  · rw [n1, Nat.add_mul]
    have := h.a1
    rw [← hd, Nat.mul_add] at this
    rw [Nat.mul_comm q, Nat.mul_assoc, Nat.mul_comm q r]
    omega
  · rw [n2, Nat.add_mul]
    have := h.a2
    rw [← hd, Nat.mul_add] at this
    rw [Nat.mul_comm q, Nat.mul_assoc, Nat.mul_comm q r]
    omega
  · exact k1
  · exact k2
end Go.Proofs.YtgpnpgfpcmiecaaDoor
namespace Go.Proofs.YtgpnpgfpcmiecaaDoor
open Go.RowKit
set_option maxHeartbeats 1000000 in
theorem sum_ge (A A' : Option Addr) (n c m d B B' : Nat) (xs ys : List Nat) (w : World) (ha : Lim w B A n c xs) (hb : Lim w B' A' m d ys) (hB : B ≤ w.heap.size) (hB' : B' ≤ w.heap.size) (hn : n ≤ 1000000) (hmn : m ≤ n) :
    Calls Tryd.prog 57 #[.slice A n c, .slice A' m d] w fun e w' => ∃ zs, RetSl w zs e w' ∧ val zs = val xs + val ys ∧ zs.length = n + 1 := by
  have hmk : ∀ W : World, (Instr.makeSlice 22 (.int .i64 ((n : Int) + 1)) (.int .i64 ((n : Int) + 1))).run Tryd.prog W =
    .ok (.slice (some ⟨W.heap.size, 0, none⟩) (n + 1) (n + 1)) (W.alloc (.cells (madeCells #[.int .u32 0] (n + 1)) 26)) := fun W => make_u32 (n + 1) (by omega) W
  go_enter Tryd.func57, Tryd.ntmps57
  go_wp2
  go_loopw [6, 22] (fun cr i wr => ∃ k q : Nat, ∃ R : List Nat, k ≤ n ∧ i = .int .i64 k ∧ cr = .int .u64 q ∧ q ≤ 1 ∧ Row wr w.heap.size R ∧ Limbs R ∧ Hid (R.length = n + 1) ∧ Hid (val (xs.take k) + val (ys.take k) = val (R.take k) + q * 4294967296 ^ k) ∧ Below w.heap.size w wr) (fun _ i _ => n - (intOf i).toNat)
  case atStart => exact ⟨0, 0, _, by omega, rfl, rfl, by omega, Row.made w (n + 1), limbs_zeros _, by simp [Hid], by simp [Hid, val], (Below.refl _ _).alloc (Nat.le_refl _) _⟩
  case round =>
    obtain ⟨k, q, R, hk, rfl, rfl, hq, hR, hL, hlen, hv, hbel⟩ := hrel
    by_cases hkn : k < n
    · obtain ⟨ad, rfl, _, x, hx, hxl, hcx⟩ := (ha.below (hbel.mono hB)).at_ hkn
      have hcr := hR.cell (k := k) (by rw [hlen.out]; omega)
      have hfr := hR.frozen k
      by_cases hkm : k < m
      · obtain ⟨ad', rfl, _, y, hy, hyl, hcy⟩ := (hb.below (hbel.mono hB')).at_ hkm
        go_wp2
        go_roundw
        case rel =>
          have e1 : (((x + q + y) % 4294967296 : Nat) : Int) = ((x : Int) + q + y) % 4294967296 := by omega
          have e2 : (((x + q + y) / 4294967296 : Nat) : Int) = ((x : Int) + q + y) / 4294967296 := by omega
          refine ⟨k + 1, (x + q + y) / 4294967296, R.set k ((x + q + y) % 4294967296), by omega, by go_num, by rw [e2], by omega, by rw [← e1]; exact hR.set k _, limbs_set hL k (by omega), by rw [Hid, List.length_set]; exact hlen.out, ?_, hbel.setCell (by simp) _⟩
          rw [Hid, val_take_succ xs, val_take_succ ys, val_set_take R k _ (by rw [hlen.out]; omega), ← hx.out, ← hy.out, Nat.pow_succ]
          exact sum_step hv.out rfl
        case measure => simp [intOf]; omega
      · go_wp2
        go_roundw
        case rel =>
          have e1 : (((x + q + 0) % 4294967296 : Nat) : Int) = ((x : Int) + q) % 4294967296 := by omega
          have e2 : (((x + q + 0) / 4294967296 : Nat) : Int) = ((x : Int) + q) / 4294967296 := by omega
          have hy : ys.getD k 0 = 0 := by rw [List.getD_eq_getElem?_getD, List.getElem?_eq_none (by rw [hb.len]; omega)]; rfl
          refine ⟨k + 1, (x + q + 0) / 4294967296, R.set k ((x + q + 0) % 4294967296), by omega, by go_num, by rw [e2], by omega, by rw [← e1]; exact hR.set k _, limbs_set hL k (by omega), by rw [Hid, List.length_set]; exact hlen.out, ?_, hbel.setCell (by simp) _⟩
          rw [Hid, val_take_succ xs, val_take_succ ys, val_set_take R k _ (by rw [hlen.out]; omega), ← hx.out, hy, Nat.pow_succ]
          exact sum_step hv.out rfl
        case measure => simp [intOf]; omega
    · obtain rfl : k = n := by omega
      have hcr := hR.cell (k := k) (by rw [hlen.out]; omega)
      have hfr := hR.frozen k
      go_wp2
      go_ret
      have hR' := hR.set k q
      have hL' := limbs_set hL k (v := q) (by omega)
      have hlen' : (R.set k q).length = k + 1 := by rw [List.length_set]; exact hlen.out
      refine ⟨R.set k q, ⟨_, _, _, rfl, hR'.len_lim hL' (k + 1) hlen' (by omega), hbel.setCell (by simp) _⟩, ?_, hlen'⟩
      have e := val_set_take R k q (by rw [hlen.out]; omega)
      rw [List.take_of_length_le (by omega)] at e
      have e2 := hv.out
      rw [List.take_of_length_le (by rw [ha.len]; exact Nat.le_refl _), List.take_of_length_le (by rw [hb.len]; exact hmn)] at e2
      rw [e, e2, Nat.mul_comm]
set_option maxHeartbeats 1000000 in
theorem sum_lt (A A' : Option Addr) (n c m d B B' : Nat) (xs ys : List Nat) (w : World) (ha : Lim w B A n c xs) (hb : Lim w B' A' m d ys) (hB : B ≤ w.heap.size) (hB' : B' ≤ w.heap.size) (hn : n ≤ 1000000) (hmn : m < n) :
    Calls Tryd.prog 57 #[.slice A' m d, .slice A n c] w fun e w' => ∃ zs, RetSl w zs e w' ∧ val zs = val xs + val ys ∧ zs.length = n + 1 := by
  have hmk : ∀ W : World, (Instr.makeSlice 22 (.int .i64 ((n : Int) + 1)) (.int .i64 ((n : Int) + 1))).run Tryd.prog W =
    .ok (.slice (some ⟨W.heap.size, 0, none⟩) (n + 1) (n + 1)) (W.alloc (.cells (madeCells #[.int .u32 0] (n + 1)) 26)) := fun W => make_u32 (n + 1) (by omega) W
  go_enter Tryd.func57, Tryd.ntmps57
  go_wp2
  go_loopw [6, 22] (fun cr i wr => ∃ k q : Nat, ∃ R : List Nat, k ≤ n ∧ i = .int .i64 k ∧ cr = .int .u64 q ∧ q ≤ 1 ∧ Row wr w.heap.size R ∧ Limbs R ∧ Hid (R.length = n + 1) ∧ Hid (val (xs.take k) + val (ys.take k) = val (R.take k) + q * 4294967296 ^ k) ∧ Below w.heap.size w wr) (fun _ i _ => n - (intOf i).toNat)
  case atStart => exact ⟨0, 0, _, by omega, rfl, rfl, by omega, Row.made w (n + 1), limbs_zeros _, by simp [Hid], by simp [Hid, val], (Below.refl _ _).alloc (Nat.le_refl _) _⟩
  case round =>
    obtain ⟨k, q, R, hk, rfl, rfl, hq, hR, hL, hlen, hv, hbel⟩ := hrel
    by_cases hkn : k < n
    · obtain ⟨ad, rfl, _, x, hx, hxl, hcx⟩ := (ha.below (hbel.mono hB)).at_ hkn
      have hcr := hR.cell (k := k) (by rw [hlen.out]; omega)
      have hfr := hR.frozen k
      by_cases hkm : k < m
      · obtain ⟨ad', rfl, _, y, hy, hyl, hcy⟩ := (hb.below (hbel.mono hB')).at_ hkm
        go_wp2
        go_roundw
        case rel =>
          have e1 : (((x + q + y) % 4294967296 : Nat) : Int) = ((x : Int) + q + y) % 4294967296 := by omega
          have e2 : (((x + q + y) / 4294967296 : Nat) : Int) = ((x : Int) + q + y) / 4294967296 := by omega
          refine ⟨k + 1, (x + q + y) / 4294967296, R.set k ((x + q + y) % 4294967296), by omega, by go_num, by rw [e2], by omega, by rw [← e1]; exact hR.set k _, limbs_set hL k (by omega), by rw [Hid, List.length_set]; exact hlen.out, ?_, hbel.setCell (by simp) _⟩
          rw [Hid, val_take_succ xs, val_take_succ ys, val_set_take R k _ (by rw [hlen.out]; omega), ← hx.out, ← hy.out, Nat.pow_succ]
          exact sum_step hv.out rfl
        case measure => simp [intOf]; omega
      · go_wp2
        go_roundw
        case rel =>
          have e1 : (((x + q + 0) % 4294967296 : Nat) : Int) = ((x : Int) + q) % 4294967296 := by omega
          have e2 : (((x + q + 0) / 4294967296 : Nat) : Int) = ((x : Int) + q) / 4294967296 := by omega
          have hy : ys.getD k 0 = 0 := by rw [List.getD_eq_getElem?_getD, List.getElem?_eq_none (by rw [hb.len]; omega)]; rfl
          refine ⟨k + 1, (x + q + 0) / 4294967296, R.set k ((x + q + 0) % 4294967296), by omega, by go_num, by rw [e2], by omega, by rw [← e1]; exact hR.set k _, limbs_set hL k (by omega), by rw [Hid, List.length_set]; exact hlen.out, ?_, hbel.setCell (by simp) _⟩
          rw [Hid, val_take_succ xs, val_take_succ ys, val_set_take R k _ (by rw [hlen.out]; omega), ← hx.out, hy, Nat.pow_succ]
          exact sum_step hv.out rfl
        case measure => simp [intOf]; omega
    · obtain rfl : k = n := by omega
      have hcr := hR.cell (k := k) (by rw [hlen.out]; omega)
      have hfr := hR.frozen k
      go_wp2
      go_ret
      have hR' := hR.set k q
      have hL' := limbs_set hL k (v := q) (by omega)
      have hlen' : (R.set k q).length = k + 1 := by rw [List.length_set]; exact hlen.out
      refine ⟨R.set k q, ⟨_, _, _, rfl, hR'.len_lim hL' (k + 1) hlen' (by omega), hbel.setCell (by simp) _⟩, ?_, hlen'⟩
      have e := val_set_take R k q (by rw [hlen.out]; omega)
      rw [List.take_of_length_le (by omega)] at e
      have e2 := hv.out
      rw [List.take_of_length_le (by rw [ha.len]; exact Nat.le_refl _), List.take_of_length_le (by rw [hb.len]; exact Nat.le_of_lt hmn)] at e2
      rw [e, e2, Nat.mul_comm]

theorem sum_any (A A' : Option Addr) (n c m d B B' : Nat) (xs ys : List Nat) (w : World) (ha : Lim w B A n c xs) (hb : Lim w B' A' m d ys) (hB : B ≤ w.heap.size) (hB' : B' ≤ w.heap.size) (hn : n ≤ 1000000) (hm : m ≤ 1000000) :
    Calls Tryd.prog 57 #[.slice A n c, .slice A' m d] w fun e w' => ∃ zs, RetSl w zs e w' ∧ val zs = val xs + val ys ∧ zs.length = max n m + 1 := by
  rcases Nat.lt_or_ge n m with h | h
  · refine (sum_lt A' A m d n c B' B ys xs w hb ha hB' hB hm h).mono ?_
    rintro e w' ⟨zs, h1, h2, h3⟩
    exact ⟨zs, h1, by omega, by omega⟩
  · refine (sum_ge A A' n c m d B B' xs ys w ha hb hB hB' hn h).mono ?_
    rintro e w' ⟨zs, h1, h2, h3⟩
    exact ⟨zs, h1, h2, by omega⟩
end Go.Proofs.YtgpnpgfpcmiecaaDoor
namespace Go.Proofs.YtgpnpgfpcmiecaaDoor
open Go.RowKit
theorem diff_digit (x y q : Nat) (hx : x < 4294967296) (hy : y < 4294967296) (hq : q ≤ 1) : ∃ q' : Nat, x + q' * 4294967296 = (x + 8589934592 - y - q) % 4294967296 + y + q ∧ q' ≤ 1 ∧
    (((x + 8589934592 - y - q) % 4294967296 : Nat) : Int) = IntKind.u64.wrap (IntKind.u64.wrap ((x : Int) - q) - y) % 4294967296 ∧ ((q' : Nat) : Int) = IntKind.u64.wrap (IntKind.u64.wrap ((x : Int) - q) - y) / 9223372036854775808 := by
  rw [IntKind.wrap_u64, IntKind.wrap_u64]
  by_cases h : x < y + q
  · exact ⟨1, by omega, by omega, by omega, by omega⟩
  · exact ⟨0, by omega, by omega, by omega, by omega⟩
set_option maxHeartbeats 1000000 in
theorem diff_any (A A' : Option Addr) (n c m d B B' : Nat) (xs ys : List Nat) (w : World) (ha : Lim w B A n c xs) (hb : Lim w B' A' m d ys) (hB : B ≤ w.heap.size) (hB' : B' ≤ w.heap.size) (hn : n ≤ 1000000) (hmn : m ≤ n) (hle : val ys ≤ val xs) :
    Calls Tryd.prog 58 #[.slice A n c, .slice A' m d] w fun e w' => ∃ zs, RetSl w zs e w' ∧ val zs = val xs - val ys ∧ zs.length = n := by
  have hmk := fun W => make_u32 n (by omega) W
  have HLE := Lib.hid hle
  clear hle
  go_enter Tryd.func58, Tryd.ntmps58
  go_wp2
  go_loopw [6, 14] (fun cr i wr => ∃ k q : Nat, ∃ R : List Nat, k ≤ n ∧ i = .int .i64 k ∧ cr = .int .u64 q ∧ q ≤ 1 ∧ Row wr w.heap.size R ∧ Limbs R ∧ Hid (R.length = n) ∧ Hid (val (xs.take k) + q * 4294967296 ^ k = val (R.take k) + val (ys.take k)) ∧ Below w.heap.size w wr) (fun _ i _ => n - (intOf i).toNat)
  case atStart => exact ⟨0, 0, _, by omega, rfl, rfl, by omega, Row.made w n, limbs_zeros _, by simp [Hid], by simp [Hid, val], (Below.refl _ _).alloc (Nat.le_refl _) _⟩
  case round =>
    obtain ⟨k, q, R, hk, rfl, rfl, hq, hR, hL, hlen, hv, hbel⟩ := hrel
    by_cases hkn : k < n
    · obtain ⟨ad, rfl, _, x, hx, hxl, hcx⟩ := (ha.below (hbel.mono hB)).at_ hkn
      have hcr := hR.cell (k := k) (by rw [hlen.out]; omega)
      have hfr := hR.frozen k
      by_cases hkm : k < m
      · obtain ⟨ad', rfl, _, y, hy, hyl, hcy⟩ := (hb.below (hbel.mono hB')).at_ hkm
        go_wp2
        go_roundw
        case rel =>
          obtain ⟨q', hq', hq1, e1, e2⟩ := diff_digit x y q hxl hyl hq
          refine ⟨k + 1, q', R.set k ((x + 8589934592 - y - q) % 4294967296), by omega, by go_num, by rw [← e2], hq1, by rw [← e1]; exact hR.set k _, limbs_set hL k (by omega), by rw [Hid, List.length_set]; exact hlen.out, ?_, hbel.setCell (by simp) _⟩
          rw [Hid, val_take_succ xs, val_take_succ ys, val_set_take R k _ (by rw [hlen.out]; omega), ← hx.out, ← hy.out, Nat.pow_succ]
          exact diff_step hv.out hq'
        case measure => simp [intOf]; omega
      · go_wp2
        go_roundw
        case rel =>
          obtain ⟨q', hq', hq1, e1, e2⟩ := diff_digit x 0 q hxl (by omega) hq
          have e3 : IntKind.u64.wrap (IntKind.u64.wrap ((x : Int) - q) - (0 : Nat)) = IntKind.u64.wrap ((x : Int) - q) := by
            rw [IntKind.wrap_u64, IntKind.wrap_u64]; omega
          rw [e3] at e1 e2
          have hy : ys.getD k 0 = 0 := by rw [List.getD_eq_getElem?_getD, List.getElem?_eq_none (by rw [hb.len]; omega)]; rfl
          refine ⟨k + 1, q', R.set k ((x + 8589934592 - 0 - q) % 4294967296), by omega, by go_num, by rw [← e2], hq1, by rw [← e1]; exact hR.set k _, limbs_set hL k (by omega), by rw [Hid, List.length_set]; exact hlen.out, ?_, hbel.setCell (by simp) _⟩
          rw [Hid, val_take_succ xs, val_take_succ ys, val_set_take R k _ (by rw [hlen.out]; omega), ← hx.out, hy, Nat.pow_succ]
          exact diff_step hv.out hq'
        case measure => simp [intOf]; omega
    · obtain rfl : k = n := by omega
      go_wp2
      go_ret
      refine ⟨R, ⟨_, _, _, rfl, hR.len_lim hL k hlen.out (by omega), hbel⟩, ?_, hlen.out⟩
      have e2 := hv.out
      rw [List.take_of_length_le (l := xs) (by rw [ha.len]; exact Nat.le_refl _), List.take_of_length_le (l := ys) (by rw [hb.len]; exact hmn), List.take_of_length_le (l := R) (by rw [hlen.out]; exact Nat.le_refl _)] at e2
      have h1 := val_lt hL
      rw [hlen.out] at h1
      have h2 := HLE.out
      have h3 : q = 0 := by
        rcases Nat.eq_zero_or_pos q with e | e
        · exact e
        · have : q = 1 := by omega
          subst this
          omega
      subst h3
      omega
end Go.Proofs.YtgpnpgfpcmiecaaDoor
namespace Go.Proofs.YtgpnpgfpcmiecaaDoor
open Go.RowKit

set_option maxHeartbeats 400000 in
theorem compareI (a b : Int) (w : World) : Calls Tryd.prog 80 #[.int .i64 a, .int .i64 b] w fun e w' => e = .returned (.int .i64 (cmpN a b)) ∧ Drawn w w' := by
  unfold cmpN
  by_cases h1 : a < b
  · rw [if_pos h1]
    go_enter Tryd.func80, Tryd.ntmps80
    go_wp2
    go_ret
    exact ⟨rfl, Drawn.refl _⟩
  · rw [if_neg h1]
    by_cases h2 : b < a
    · rw [if_pos h2]
      go_enter Tryd.func80, Tryd.ntmps80
      go_wp2
      go_ret
      exact ⟨rfl, Drawn.refl _⟩
    · rw [if_neg h2]
      go_enter Tryd.func80, Tryd.ntmps80
      go_wp2
      go_ret
      exact ⟨rfl, Drawn.refl _⟩
set_option maxHeartbeats 400000 in
theorem compareU (a b : Int) (w : World) : Calls Tryd.prog 81 #[.int .u32 a, .int .u32 b] w fun e w' => e = .returned (.int .i64 (cmpN a b)) ∧ Drawn w w' := by
  unfold cmpN
  by_cases h1 : a < b
  · rw [if_pos h1]
    go_enter Tryd.func81, Tryd.ntmps81
    go_wp2
    go_ret
    exact ⟨rfl, Drawn.refl _⟩
  · rw [if_neg h1]
    by_cases h2 : b < a
    · rw [if_pos h2]
      go_enter Tryd.func81, Tryd.ntmps81
      go_wp2
      go_ret
      exact ⟨rfl, Drawn.refl _⟩
    · rw [if_neg h2]
      go_enter Tryd.func81, Tryd.ntmps81
      go_wp2
      go_ret
      exact ⟨rfl, Drawn.refl _⟩
set_option maxHeartbeats 400000 in
theorem order_any (A A' : Option Addr) (n c m d B B' : Nat) (xs ys : List Nat) (w : World) (ha : Lim w B A n c xs) (hb : Lim w B' A' m d ys) :
    Calls Tryd.prog 55 #[.slice A n c, .slice A' m d] w fun e w' => e = .returned (.int .i64 (ordV xs ys)) ∧ Drawn w w' := by
  have hn := ha.cap
  have hm := hb.cap
  have hn' : n ≤ 9223372036854775807 := by omega
  have hm' : m ≤ 9223372036854775807 := by omega
  clear hn hm
  by_cases hnm : n = m
  · subst hnm
    have HL : Hid (xs.length = n ∧ ys.length = n) := ⟨ha.len, hb.len⟩
    have hLx : Limbs xs := ha.lt
    have hLy : Limbs ys := hb.lt
    go_enter Tryd.func55, Tryd.ntmps55
    go_wp2
    go_loopw [5] (fun i wr => ∃ k : Int, -1 ≤ k ∧ k < n ∧ i = .int .i64 k ∧ Hid (∀ j : Nat, k < j → j < n → xs.getD j 0 = ys.getD j 0) ∧ Drawn w wr) (fun i _ => (intOf i + 1).toNat)
    case atStart => exact ⟨n - 1, by omega, by omega, rfl, fun j h1 h2 => absurd h1 (by omega), Drawn.refl w⟩
    case round =>
      obtain ⟨k, hk, hkn, rfl, hgt, hd⟩ := hrel
      by_cases h0 : 0 ≤ k
      · obtain ⟨k, rfl⟩ := Int.eq_ofNat_of_zero_le h0
        have hkn' : k < n := by omega
        obtain ⟨ad, rfl, _, x, hx, hxl, hcx⟩ := (ha.drawn hd).at_ hkn'
        obtain ⟨ad', rfl, _, y, hy, hyl, hcy⟩ := (hb.drawn hd).at_ hkn'
        by_cases hxy : x = y
        · have hb1 : ((x : Int) != y) = false := by simp [hxy]
          have HXY := Lib.hid hxy
          clear hxy
          go_wp2
          go_quiet (fail)
          go_wp2
          go_roundw
          case rel =>
            refine ⟨k - 1, by omega, by omega, rfl, fun j h1 h2 => ?_, hd.drewN _⟩
            rcases Nat.eq_or_lt_of_le (show k ≤ j by omega) with e | e
            · subst e; rw [← hx.out, ← hy.out, HXY.out]
            · exact hgt.out j (by omega) h2
          case measure => simp [intOf] <;> omega
        · have hb1 : ((x : Int) != y) = true := by simp; omega
          have hb2 := Lib.hid hxy
          clear hxy
          go_wp2
          go_quiet (fail)
          go_wp2
          go_quiet ((go_at_call 81; exact quietDD (compareU _ _ _)))
          go_wp2
          go_ret
          refine ⟨retI ?_, ?_⟩
          · rw [hx.out, hy.out, ordV_at hLx hLy (by rw [HL.out.1, HL.out.2]) k (by rw [HL.out.1]; omega) (fun j h1 h2 => hgt.out j (by omega) (by rw [HL.out.1] at h2; exact h2))]
            rw [← hx.out, ← hy.out]; exact hb2.out
          · exact (hd.drewN _).drewN _
      · obtain rfl : k = -1 := by omega
        go_wp2
        go_ret
        refine ⟨retI ?_, hd⟩
        rw [ordV_eq (by rw [HL.out.1, HL.out.2]) (fun j h1 => hgt.out j (by omega) (by rw [HL.out.1] at h1; exact h1))]
  · have hv : ordV xs ys = cmpN n m := by unfold ordV; rw [ha.len, hb.len, if_neg hnm]
    have HV := Lib.hid hv
    have hb1 : ((n : Int) == m) = false := by simp; omega
    clear hv ha hb
    go_enter Tryd.func55, Tryd.ntmps55
    go_wp2_with fail
    refine (compareI _ _ _).mono ?_
    rintro e w1 ⟨rfl, hd⟩
    go_wp2
    go_ret
    exact ⟨retI (by rw [HV.out]), hd⟩
end Go.Proofs.YtgpnpgfpcmiecaaDoor
namespace Go.Proofs.YtgpnpgfpcmiecaaDoor
theorem digs_len_mul (x y : Nat) : (digs (x * y)).length ≤ (digs x).length + (digs y).length := by
  apply digs_len_le
  rw [Nat.pow_add]
  rcases Nat.eq_zero_or_pos y with h | h
  · subst h
    rw [Nat.mul_zero]
    exact Nat.mul_pos (Nat.pow_pos (by omega)) (Nat.pow_pos (by omega))
  · exact Nat.lt_of_lt_of_le (Nat.mul_lt_mul_of_pos_right (lt_digs_len x) h) (Nat.mul_le_mul_left _ (Nat.le_of_lt (lt_digs_len y)))
theorem digs_len_pow (x k : Nat) : (digs (x ^ k)).length ≤ k * (digs x).length + 1 := by
  induction k with
  | zero => rw [Nat.pow_zero]; exact Nat.le_trans (digs_len_le (k := 1) (by omega)) (by omega)
  | succ k ih =>
    rw [Nat.pow_succ, Nat.succ_mul]
    have := digs_len_mul (x ^ k) x
    omega
theorem digs_len_lt {k v : Nat} (h : 4294967296 ^ k ≤ v) : k < (digs v).length := by
  rcases Nat.lt_or_ge k (digs v).length with h1 | h1
  · exact h1
  · have h2 := lt_digs_len v
    have h3 : 4294967296 ^ (digs v).length ≤ 4294967296 ^ k := Nat.pow_le_pow_right (by omega) h1
    omega
/-- Limbs of the least length for their value are those of the value. -/
theorem eq_digs {xs : List Nat} (h : Limbs xs) (hl : xs.length ≤ (digs (val xs)).length) : xs = digs (val xs) := by
  have := digs_eq_take h
  rw [List.take_of_length_le hl] at this
  exact this.symm
theorem sq_lt_sq {a b : Nat} (h : a * a < b * b) : a < b := by
  rcases Nat.lt_or_ge a b with h1 | h1
  · exact h1
  · have := Nat.mul_le_mul h1 h1; omega
/-- The step of Newton's iteration stays above the root. -/
theorem newton_step {a r q : Nat} (h : a < r * (q + 1)) : a < ((r + q) / 2 + 1) * ((r + q) / 2 + 1) := by
  have h1 : r + q + 1 ≤ 2 * ((r + q) / 2 + 1) := by omega
  generalize (r + q) / 2 + 1 = m at *
  have h2 : (r + (q + 1)) * (r + (q + 1)) ≤ (2 * m) * (2 * m) := Nat.mul_le_mul h1 h1
  have h3 : (2 * m) * (2 * m) = 4 * (m * m) := by rw [Nat.mul_mul_mul_comm]
  have h4 : 4 * (r * (q + 1)) ≤ (r + (q + 1)) * (r + (q + 1)) := by
    rcases Nat.le_total r (q + 1) with e | e
    · obtain ⟨d, hd⟩ := Nat.le.dest e
      rw [← hd]
      have : (r + (r + d)) * (r + (r + d)) = 4 * (r * (r + d)) + d * d := by
        have e1 : r + (r + d) = 2 * r + d := by omega
        rw [e1, Nat.mul_add, Nat.add_mul, Nat.add_mul, Nat.mul_add]
        have e2 : 2 * r * (2 * r) = 4 * (r * r) := by rw [Nat.mul_mul_mul_comm]
        have e3 : 2 * r * d = 2 * (r * d) := by rw [Nat.mul_assoc]
        have e4 : d * (2 * r) = 2 * (r * d) := by rw [Nat.mul_comm, Nat.mul_assoc]
        rw [e2, e3, e4]; omega
      omega
    · obtain ⟨d, hd⟩ := Nat.le.dest e
      generalize q + 1 = u at *
      subst hd
      have : (u + d + u) * (u + d + u) = 4 * ((u + d) * u) + d * d := by
        have e1 : u + d + u = 2 * u + d := by omega
        rw [e1, Nat.mul_add, Nat.add_mul, Nat.add_mul, Nat.add_mul]
        have e2 : 2 * u * (2 * u) = 4 * (u * u) := by rw [Nat.mul_mul_mul_comm]
        have e3 : 2 * u * d = 2 * (d * u) := by rw [Nat.mul_assoc, Nat.mul_comm u d]
        have e4 : d * (2 * u) = 2 * (d * u) := by rw [Nat.mul_comm, Nat.mul_assoc, Nat.mul_comm u d]
        rw [e2, e3, e4]; omega
      omega
  omega
end Go.Proofs.YtgpnpgfpcmiecaaDoor
