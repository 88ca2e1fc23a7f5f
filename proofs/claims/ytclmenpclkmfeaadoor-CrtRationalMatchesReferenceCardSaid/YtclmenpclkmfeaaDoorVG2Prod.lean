/- Contract of integer.product. Contracts of cmp.Compare and integer.order. Contracts of integer.word. Contracts of integer.Sign, Valid, Small, torsionref01.Sign, Valid. Contracts of integer.words, gcdOfWords. Contracts of torsionref01.Made. Contracts of torsionref01.Of, Neg, Abs, Valid and of made. Mathematics of Chinese remainders. Contracts of torsionref01.less, Same. -/
import Derived.Test.YtclmenpclkmfeaaDoorVG0Words
namespace Go.Proofs.YtclmenpclkmfeaaDoor
open Go.RowKit
theorem getD_zeros {k : Nat} (n : Nat) : Hid (∀ j, k ≤ j → (List.replicate n 0).getD j 0 = 0) := by
  intro j _
  rw [List.getD_eq_getElem?_getD, List.getElem?_replicate]
  split <;> rfl
set_option maxHeartbeats 1000000 in
theorem prod_pos (A A' : Option Addr) (n c m d B B' : Nat) (xs ys : List Nat) (w : World) (ha : Lim w B A n c xs) (hb : Lim w B' A' m d ys) (hB : B ≤ w.heap.size) (hB' : B' ≤ w.heap.size) (hn : n ≤ 1000000) (hm : m ≤ 1000000) (hn0 : 0 < n) (hm0 : 0 < m) :
    Calls Tryd.prog 93 #[.slice A n c, .slice A' m d] w fun e w' => ∃ zs, RetSl w zs e w' ∧ val zs = val xs * val ys ∧ zs.length = n + m := by
  have hmk : ∀ W : World, (Instr.makeSlice 26 (.int .i64 ((n : Int) + m)) (.int .i64 ((n : Int) + m))).run Tryd.prog W =
    .ok (.slice (some ⟨W.heap.size, 0, none⟩) (n + m) (n + m)) (W.alloc (.cells (madeCells #[.int .u32 0] (n + m)) 69)) := fun W => make_u32 (n + m) (by omega) W
  have b1 : ((n : Int) == 0) = false := by simp; omega
  have b2 : ((m : Int) == 0) = false := by simp; omega
  go_enter Tryd.func93, Tryd.ntmps93
  go_wp2
  go_loopw [27] (fun i wr => ∃ k : Nat, ∃ R : List Nat, k ≤ n ∧ i = .int .i64 k ∧ Row wr w.heap.size R ∧ Limbs R ∧ Hid (R.length = n + m) ∧ Hid (∀ j, k + m ≤ j → R.getD j 0 = 0) ∧ Hid (val R = val (xs.take k) * val ys) ∧ Below w.heap.size w wr) (fun i _ => n - (intOf i).toNat)
  case atStart => exact ⟨0, _, by omega, rfl, Row.made w (n + m), limbs_zeros _, by simp [Hid], getD_zeros _, by simp [Hid, val, val_zeros], (Below.refl _ _).alloc (Nat.le_refl _) _⟩
  case round =>
    obtain ⟨k, R, hk, rfl, hR, hL, hlen, hz, hv, hbel⟩ := hrel
    by_cases hkn : k < n
    · obtain ⟨ad, rfl, _, x, hx, hxl, hcx⟩ := (ha.below (hbel.mono hB)).at_ hkn
      go_wp2
      obtain ⟨wo, rfl⟩ : ∃ wo : World, wo = wr := ⟨_, rfl⟩
      go_loopw [8, 37] (fun cr i wi => ∃ l q : Nat, ∃ S : List Nat, l ≤ m ∧ i = .int .i64 l ∧ cr = .int .u64 q ∧ q < 4294967296 ∧ Row wi w.heap.size S ∧ Limbs S ∧ Hid (S.length = n + m) ∧ Hid (∀ j, k + m ≤ j → S.getD j 0 = 0) ∧
        Hid (val S + q * (4294967296 ^ k * 4294967296 ^ l) = val R + x * val (ys.take l) * 4294967296 ^ k) ∧ Below w.heap.size w wi) (fun _ i _ => m - (intOf i).toNat)
      case atStart => exact ⟨0, 0, R, by omega, rfl, rfl, by omega, hR, hL, hlen, hz, by simp [Hid, val], hbel⟩
      case round =>
        obtain ⟨l, q, S, hl, rfl, rfl, hq, hS, hLS, hlenS, hzS, hvS, hbel2⟩ := hrel
        by_cases hlm : l < m
        · obtain ⟨ad', rfl, _, y, hy, hyl, hcy⟩ := (hb.below (hbel2.mono hB')).at_ hlm
          have hcr := hS.cell (k := k + l) (by rw [hlenS.out]; omega)
          have hfr := hS.frozen (k + l)
          obtain ⟨r, hr⟩ : ∃ r, r = S.getD (k + l) 0 := ⟨_, rfl⟩
          have hrl : r < 4294967296 := by
            subst hr
            rw [List.getD_eq_getElem?_getD, List.getElem?_eq_getElem (by rw [hlenS.out]; omega)]
            exact hLS _ (List.getElem_mem _)
          rw [← hr] at hcr
          have HR := Lib.hid hr
          clear hr
          obtain ⟨p, hp⟩ : ∃ p : Nat, p = x * y := ⟨_, rfl⟩
          have hpl : p ≤ 18446744065119617025 := by
            subst hp
            exact Nat.mul_le_mul (show x ≤ 4294967295 by omega) (show y ≤ 4294967295 by omega)
          have hxy : (x : Int) * (y : Int) = (p : Int) := by rw [hp]; exact (Int.natCast_mul x y).symm
          have HP := Lib.hid hp
          clear hp
          have i0 : (0 : Int) ≤ (k : Int) + l := by omega
          have i1 : (k : Int) + l < (n : Int) + m := by omega
          have i2 : ((k : Int) + l).toNat = k + l := by omega
          have i3 : (l : Int) < m := by omega
          have i4 : (0 : Int) ≤ l := by omega
          have w0 : IntKind.i64.wrap ((k : Int) + l) = (k : Int) + l := by rw [IntKind.wrap_i64]; omega
          have w1 : IntKind.u64.wrap (p : Int) = (p : Int) := by rw [IntKind.wrap_u64]; omega
          have w2 : IntKind.u64.wrap ((p : Int) + r) = (p : Int) + r := by rw [IntKind.wrap_u64]; omega
          have w3 : IntKind.u64.wrap ((p : Int) + r + q) = (p : Int) + r + q := by rw [IntKind.wrap_u64]; omega
          go_wp2
          go_quiet (fail)
          clear w0 w1 w2 w3
          go_wp2
          go_roundw
          case rel =>
            have e1 : (((p + r + q) % 4294967296 : Nat) : Int) = ((p : Int) + r + q) % 4294967296 := by omega
            have e2 : (((p + r + q) / 4294967296 : Nat) : Int) = ((p : Int) + r + q) / 4294967296 := by omega
            refine ⟨l + 1, (p + r + q) / 4294967296, S.set (k + l) ((p + r + q) % 4294967296), by omega, by go_num, by rw [e2], by omega, ?_, limbs_set hLS _ (by omega), by rw [Hid, List.length_set]; exact hlenS.out, fun j hj => ?_, ?_, ?_⟩
            · rw [← e1]; exact (Row.drewN hS _).set _ _
            · rw [getD_set_ne _ _ (by omega)]; exact hzS.out j hj
            · have h1 := val_set S (k + l) ((p + r + q) % 4294967296) (by rw [hlenS.out]; omega)
              rw [← HR.out, Nat.pow_add] at h1
              rw [Hid, val_take_succ ys, ← hy.out, Nat.pow_succ]
              exact prod_step hvS.out (by rw [HP.out]) h1
            · exact (Below.drewN' hbel2 _).setCell (by simp) _
          case measure => simp [intOf]; omega
        · obtain rfl : l = m := by omega
          have hcr := hS.cell (k := k + l) (by rw [hlenS.out]; omega)
          have hfr := hS.frozen (k + l)
          go_wp2
          go_roundw
          case rel =>
            refine ⟨k + 1, S.set (k + l) q, by omega, by go_num, hS.set _ _, limbs_set hLS _ hq, by rw [Hid, List.length_set]; exact hlenS.out, fun j hj => ?_, ?_, hbel2.setCell (by simp) _⟩
            · rw [getD_set_ne _ _ (by omega)]; exact hzS.out j (by omega)
            · have h1 := val_set S (k + l) q (by rw [hlenS.out]; omega)
              rw [hzS.out (k + l) (Nat.le_refl _), Nat.pow_add] at h1
              have h2 := hvS.out
              rw [List.take_of_length_le (l := ys) (by rw [hb.len]; exact Nat.le_refl _)] at h2
              rw [Hid, val_take_succ xs, ← hx.out]
              have h3 := hv.out
              have e1 : (val (xs.take k) + 4294967296 ^ k * x) * val ys = val R + x * val ys * 4294967296 ^ k := by
                rw [Nat.add_mul, ← h3, Nat.mul_comm (4294967296 ^ k) x, Nat.mul_assoc, Nat.mul_comm (4294967296 ^ k) (val ys), ← Nat.mul_assoc]
              rw [e1, ← h2, Nat.mul_comm q]
              simpa using h1
          case measure => simp [intOf]; omega
    · obtain rfl : k = n := by omega
      go_wp2
      go_ret
      refine ⟨R, ⟨_, _, _, rfl, hR.len_lim hL (k + m) hlen.out (by omega), hbel⟩, ?_, hlen.out⟩
      rw [hv.out, List.take_of_length_le (l := xs) (by rw [ha.len]; exact Nat.le_refl _)]
end Go.Proofs.YtclmenpclkmfeaaDoor
namespace Go.Proofs.YtclmenpclkmfeaaDoor
open Go.RowKit

set_option maxHeartbeats 400000 in
theorem compareI (a b : Int) (w : World) : Calls Tryd.prog 95 #[.int .i64 a, .int .i64 b] w fun e w' => e = .returned (.int .i64 (cmpN a b)) ∧ Drawn w w' := by
  unfold cmpN
  by_cases h1 : a < b
  · rw [if_pos h1]
    go_enter Tryd.func95, Tryd.ntmps95
    go_wp2
    go_ret
    exact ⟨rfl, Drawn.refl _⟩
  · rw [if_neg h1]
    by_cases h2 : b < a
    · rw [if_pos h2]
      go_enter Tryd.func95, Tryd.ntmps95
      go_wp2
      go_ret
      exact ⟨rfl, Drawn.refl _⟩
    · rw [if_neg h2]
      go_enter Tryd.func95, Tryd.ntmps95
      go_wp2
      go_ret
      exact ⟨rfl, Drawn.refl _⟩
set_option maxHeartbeats 400000 in
theorem compareU (a b : Int) (w : World) : Calls Tryd.prog 96 #[.int .u32 a, .int .u32 b] w fun e w' => e = .returned (.int .i64 (cmpN a b)) ∧ Drawn w w' := by
  unfold cmpN
  by_cases h1 : a < b
  · rw [if_pos h1]
    go_enter Tryd.func96, Tryd.ntmps96
    go_wp2
    go_ret
    exact ⟨rfl, Drawn.refl _⟩
  · rw [if_neg h1]
    by_cases h2 : b < a
    · rw [if_pos h2]
      go_enter Tryd.func96, Tryd.ntmps96
      go_wp2
      go_ret
      exact ⟨rfl, Drawn.refl _⟩
    · rw [if_neg h2]
      go_enter Tryd.func96, Tryd.ntmps96
      go_wp2
      go_ret
      exact ⟨rfl, Drawn.refl _⟩
set_option maxHeartbeats 400000 in
theorem order_any (A A' : Option Addr) (n c m d B B' : Nat) (xs ys : List Nat) (w : World) (ha : Lim w B A n c xs) (hb : Lim w B' A' m d ys) :
    Calls Tryd.prog 71 #[.slice A n c, .slice A' m d] w fun e w' => e = .returned (.int .i64 (ordV xs ys)) ∧ Drawn w w' := by
  have hn := ha.cap
  have hm := hb.cap
  have hn' : n ≤ 9223372036854775807 := by omega
  have hm' : m ≤ 9223372036854775807 := by omega
  clear hn hm
  by_cases hnm : n = m
  · subst hnm
    have HL : Hid (xs.length = n ∧ ys.length = n) := ⟨ha.len, hb.len⟩
    have hLx : Limbs xs := ha.lt
    have hLy : Limbs ys := hb.lt
    go_enter Tryd.func71, Tryd.ntmps71
    go_wp2
    go_loopw [5] (fun i wr => ∃ k : Int, -1 ≤ k ∧ k < n ∧ i = .int .i64 k ∧ Hid (∀ j : Nat, k < j → j < n → xs.getD j 0 = ys.getD j 0) ∧ Drawn w wr) (fun i _ => (intOf i + 1).toNat)
    case atStart => exact ⟨n - 1, by omega, by omega, rfl, fun j h1 h2 => absurd h1 (by omega), Drawn.refl w⟩
    case round =>
      obtain ⟨k, hk, hkn, rfl, hgt, hd⟩ := hrel
      by_cases h0 : 0 ≤ k
      · obtain ⟨k, rfl⟩ := Int.eq_ofNat_of_zero_le h0
        have hkn' : k < n := by omega
        obtain ⟨ad, rfl, _, x, hx, hxl, hcx⟩ := (ha.drawn hd).at_ hkn'
        obtain ⟨ad', rfl, _, y, hy, hyl, hcy⟩ := (hb.drawn hd).at_ hkn'
        by_cases hxy : x = y
        · have hb1 : ((x : Int) != y) = false := by simp [hxy]
          have HXY := Lib.hid hxy
          clear hxy
          go_wp2
          go_quiet (fail)
          go_wp2
          go_roundw
          case rel =>
            refine ⟨k - 1, by omega, by omega, rfl, fun j h1 h2 => ?_, hd.drewN _⟩
            rcases Nat.eq_or_lt_of_le (show k ≤ j by omega) with e | e
            · subst e; rw [← hx.out, ← hy.out, HXY.out]
            · exact hgt.out j (by omega) h2
          case measure => simp [intOf] <;> omega
        · have hb1 : ((x : Int) != y) = true := by simp; omega
          have hb2 := Lib.hid hxy
          clear hxy
          go_wp2
          go_quiet (fail)
          go_wp2
          go_quiet ((go_at_call 96; exact quietDD (compareU _ _ _)))
          go_wp2
          go_ret
          refine ⟨retI ?_, ?_⟩
          · rw [hx.out, hy.out, ordV_at hLx hLy (by rw [HL.out.1, HL.out.2]) k (by rw [HL.out.1]; omega) (fun j h1 h2 => hgt.out j (by omega) (by rw [HL.out.1] at h2; exact h2))]
            rw [← hx.out, ← hy.out]; exact hb2.out
          · exact (hd.drewN _).drewN _
      · obtain rfl : k = -1 := by omega
        go_wp2
        go_ret
        refine ⟨retI ?_, hd⟩
        rw [ordV_eq (by rw [HL.out.1, HL.out.2]) (fun j h1 => hgt.out j (by omega) (by rw [HL.out.1] at h1; exact h1))]
  · have hv : ordV xs ys = cmpN n m := by unfold ordV; rw [ha.len, hb.len, if_neg hnm]
    have HV := Lib.hid hv
    have hb1 : ((n : Int) == m) = false := by simp; omega
    clear hv ha hb
    go_enter Tryd.func71, Tryd.ntmps71
    go_wp2_with fail
    refine (compareI _ _ _).mono ?_
    rintro e w1 ⟨rfl, hd⟩
    go_wp2
    go_ret
    exact ⟨retI (by rw [HV.out]), hd⟩
end Go.Proofs.YtclmenpclkmfeaaDoor
namespace Go.Proofs.YtclmenpclkmfeaaDoor
open Go.RowKit
set_option maxHeartbeats 400000 in
theorem word_any (A : Option Addr) (n c B : Nat) (xs : List Nat) (w : World) (ha : Lim w B A n c xs) :
    Calls Tryd.prog 107 #[.slice A n c] w fun e w' => e = .returned (.tuple #[.int .u64 ((if n ≤ 2 then val xs else 0 : Nat) : Int), .bool (decide (n ≤ 2))]) ∧ Drawn w w' := by
  have hl := ha.len
  rcases n with _ | _ | _ | n
  · have hx : xs = [] := List.eq_nil_of_length_eq_zero hl
    subst hx
    go_enter Tryd.func107, Tryd.ntmps107
    go_wp2
    go_ret2
    exact ⟨by simp [val], Drawn.refl _⟩
  · obtain ⟨ad, rfl, _, x, hx, hxl, hcx⟩ := ha.at_ (show 0 < 1 by omega)
    have hv : (if 0 + 1 ≤ 2 then val xs else 0) = x := by
      match xs, hl with
      | [a], _ => simp [val, hx.out]
    rw [hv]
    have hc0 : w.cell? ad = some (.int .u32 (x : Int)) := hcx
    clear hv hcx hl
    go_enter Tryd.func107, Tryd.ntmps107
    go_wp2
    go_ret2
    exact ⟨rfl, Drawn.refl _⟩
  · obtain ⟨ad, rfl, _, x, hx, hxl, hcx⟩ := ha.at_ (show 0 < 2 by omega)
    obtain ⟨ad', e, _, y, hy, hyl, hcy⟩ := ha.at_ (show 1 < 2 by omega)
    obtain rfl := Option.some.inj e
    have hv : (if 0 + 1 + 1 ≤ 2 then val xs else 0) = x + 4294967296 * y := by
      match xs, hl with
      | [a, b], _ => simp [val, hx.out, hy.out]
    rw [hv]
    have hc0 : w.cell? ad = some (.int .u32 (x : Int)) := hcx
    have hc1 : w.cell? { block := ad.block, off := ad.off + 1 } = some (.int .u32 (y : Int)) := hcy
    clear hv hcx hcy hl
    go_enter Tryd.func107, Tryd.ntmps107
    go_wp2
    go_quiet (fail)
    go_wp2
    go_ret2
    exact ⟨retT (or_limbs x y hxl hyl), Drawn.refl _ |>.drewN _⟩
  · have hv : (if n + 1 + 1 + 1 ≤ 2 then val xs else 0) = 0 := if_neg (by omega)
    have hv2 : decide (n + 1 + 1 + 1 ≤ 2) = false := decide_eq_false (by omega)
    rw [hv, hv2]
    have b1 : ((n : Int) + 1 + 1 + 1 == 0) = false := by simp; omega
    have b2 : ((n : Int) + 1 + 1 + 1 == 1) = false := by simp; omega
    have b3 : ((n : Int) + 1 + 1 + 1 == 2) = false := by simp; omega
    clear hv hv2 hl
    go_enter Tryd.func107, Tryd.ntmps107
    go_wp2
    go_ret2
    exact ⟨rfl, Drawn.refl _⟩
end Go.Proofs.YtclmenpclkmfeaaDoor
namespace Go.Proofs.YtclmenpclkmfeaaDoor
open Go.RowKit
def sgn (z : Int) : Int := if z < 0 then -1 else if 0 < z then 1 else 0
theorem len_of {w : World} {neg : Bool} {A : Option Addr} {n c : Nat} {z : Int} (h : IsInt w neg A n c z) : n = 0 ↔ z = 0 := by
  rw [← h.lim.len, digs_len_zero]; omega
set_option maxHeartbeats 400000 in
theorem rsign_any (neg : Bool) (A : Option Addr) (n c : Nat) (z : Int) (w : World) (ha : IsInt w neg A n c z) :
    Calls Tryd.prog 25 #[.agg #[.bool neg, .slice A n c]] w fun e w' => e = .returned (.int .i64 (sgn z)) ∧ Below w.heap.size w w' := by
  have hz := len_of ha
  have hs := ha.sign
  rcases Nat.eq_zero_or_pos n with h0 | h0
  · have h1 : sgn z = 0 := by rw [hz.1 h0]; rfl
    rw [h1]
    subst h0
    clear hz hs h1
    go_enter Tryd.func25, Tryd.ntmps25
    go_wp2
    go_ret
    exact ⟨rfl, (Below.refl _ _).alloc (Nat.le_refl _) _⟩
  · have hb1 : ((n : Int) == 0) = false := by simp; omega
    by_cases h2 : z < 0
    · have h1 : sgn z = -1 := if_pos h2
      have h3 : neg = true := by rw [hs, decide_eq_true h2]
      rw [h1]
      subst h3
      clear hz hs h1
      go_enter Tryd.func25, Tryd.ntmps25
      go_wp2
      go_ret
      exact ⟨rfl, (Below.refl _ _).alloc (Nat.le_refl _) _⟩
    · have h1 : sgn z = 1 := by unfold sgn; rw [if_neg h2, if_pos (by omega)]
      have h3 : neg = false := by rw [hs, decide_eq_false h2]
      rw [h1]
      subst h3
      clear hz hs h1
      go_enter Tryd.func25, Tryd.ntmps25
      go_wp2
      go_ret
      exact ⟨rfl, (Below.refl _ _).alloc (Nat.le_refl _) _⟩
set_option maxHeartbeats 400000 in
theorem sign_any (neg : Bool) (A : Option Addr) (n c : Nat) (z : Int) (w : World) (ha : IsInt w neg A n c z) :
    Calls Tryd.prog 88 #[.agg #[.bool neg, .slice A n c]] w fun e w' => e = .returned (.int .i64 (sgn z)) ∧ Below w.heap.size w w' := by
  have H := fun W (hW : Below w.heap.size w W) => tidy_any neg A n c w.heap.size (digs z.natAbs) W (ha.lim.below hW) hW.size
  have e1 : zOf neg (val (digs z.natAbs)) = z := by rw [val_digs, ha.sign]; exact zOf_self z
  rw [e1, val_digs] at H
  have hz : (digs z.natAbs).length = 0 ↔ z = 0 := by rw [digs_len_zero]; omega
  generalize (digs z.natAbs).length = k at *
  have P0 := Slot2.new w (.bool neg) (.slice A n c) 28
  have HB := (Below.refl w.heap.size w).alloc (Nat.le_refl _) (.cells #[.bool neg, .slice A n c] 28)
  by_cases h2 : z < 0
  · have h1 : sgn z = -1 := if_pos h2
    rw [decide_eq_true h2] at H
    rw [h1]
    have H' := Lib.hid H
    clear hz h1 H e1
    go_enter Tryd.func88, Tryd.ntmps88
    go_wp2_with fail
    refine (H'.out _ HB).mono ?_
    rintro e w1 ⟨rfl, hb1⟩
    obtain ⟨k0, k1, f0, f1, _⟩ := P0.after hb1
    go_wp2
    go_ret
    exact ⟨rfl, ((HB.trans (hb1.mono HB.size)).setCell (by simp) _).setCell (by simp) _⟩
  · rw [decide_eq_false h2] at H
    by_cases h0 : z = 0
    · have h1 : sgn z = 0 := by rw [h0]; rfl
      obtain rfl : k = 0 := hz.2 h0
      rw [h1]
      have H' := Lib.hid H
      clear hz h1 H e1
      go_enter Tryd.func88, Tryd.ntmps88
      go_wp2_with fail
      refine (H'.out _ HB).mono ?_
      rintro e w1 ⟨rfl, hb1⟩
      obtain ⟨k0, k1, f0, f1, _⟩ := P0.after hb1
      go_wp2
      go_ret
      exact ⟨rfl, ((HB.trans (hb1.mono HB.size)).setCell (by simp) _).setCell (by simp) _⟩
    · have h1 : sgn z = 1 := by unfold sgn; rw [if_neg h2, if_pos (by omega)]
      have hk : 0 < k := by omega
      rw [h1]
      have H' := Lib.hid H
      clear hz h1 H e1
      go_enter Tryd.func88, Tryd.ntmps88
      go_wp2_with fail
      refine (H'.out _ HB).mono ?_
      rintro e w1 ⟨rfl, hb1⟩
      obtain ⟨k0, k1, f0, f1, _⟩ := P0.after hb1
      go_wp2
      go_ret
      exact ⟨rfl, ((HB.trans (hb1.mono HB.size)).setCell (by simp) _).setCell (by simp) _⟩
end Go.Proofs.YtclmenpclkmfeaaDoor
namespace Go.Proofs.YtclmenpclkmfeaaDoor
open Go.RowKit
set_option maxHeartbeats 400000 in
theorem words_yes (A A' : Option Addr) (n c m d B B' : Nat) (xs ys : List Nat) (w : World) (ha : Lim w B A n c xs) (hb : Lim w B' A' m d ys) (h1 : n ≤ 2) (h2 : m ≤ 2) :
    Calls Tryd.prog 98 #[.slice A n c, .slice A' m d] w fun e w' => e = .returned (.tuple #[.int .u64 ((val xs : Nat) : Int), .int .u64 ((val ys : Nat) : Int), .bool true]) ∧ Drawn w w' := by
  have H1 := word_any A n c B xs w ha
  have H2 := fun W hd => word_any A' m d B' ys W (hb.drawn (w := w) hd)
  rw [if_pos h1, decide_eq_true h1] at H1
  simp only [if_pos h2, decide_eq_true h2] at H2
  have H1' := Lib.hid H1
  have H2' := Lib.hid H2
  generalize val xs = x at *
  generalize val ys = y at *
  clear H1 H2
  go_enter Tryd.func98, Tryd.ntmps98
  go_wp2_with fail
  refine H1'.out.mono ?_
  rintro e w1 ⟨rfl, hd1⟩
  go_wp2_with fail
  refine (H2'.out _ hd1).mono ?_
  rintro e w2 ⟨rfl, hd2⟩
  go_wp2
  go_ret3
  exact ⟨rfl, hd1.trans hd2⟩
set_option maxHeartbeats 400000 in
theorem words_no (A A' : Option Addr) (n c m d B B' : Nat) (xs ys : List Nat) (w : World) (ha : Lim w B A n c xs) (hb : Lim w B' A' m d ys) (h : ¬ (n ≤ 2 ∧ m ≤ 2)) :
    Calls Tryd.prog 98 #[.slice A n c, .slice A' m d] w fun e w' => (∃ x y : Int, e = .returned (.tuple #[.int .u64 x, .int .u64 y, .bool false])) ∧ Drawn w w' := by
  have H1 := word_any A n c B xs w ha
  have H2 := fun W hd => word_any A' m d B' ys W (hb.drawn (w := w) hd)
  generalize ((if n ≤ 2 then val xs else 0 : Nat) : Int) = x at H1
  generalize ((if m ≤ 2 then val ys else 0 : Nat) : Int) = y at H2
  by_cases h1 : n ≤ 2
  · have h2 : ¬ m ≤ 2 := fun h2 => h ⟨h1, h2⟩
    rw [decide_eq_true h1] at H1
    simp only [decide_eq_false h2] at H2
    have H1' := Lib.hid H1
    have H2' := Lib.hid H2
    clear H1 H2 h
    go_enter Tryd.func98, Tryd.ntmps98
    go_wp2_with fail
    refine H1'.out.mono ?_
    rintro e w1 ⟨rfl, hd1⟩
    go_wp2_with fail
    refine (H2'.out _ hd1).mono ?_
    rintro e w2 ⟨rfl, hd2⟩
    go_wp2
    go_ret3
    exact ⟨⟨_, _, rfl⟩, hd1.trans hd2⟩
  · rw [decide_eq_false h1] at H1
    generalize decide (m ≤ 2) = b at H2
    have H1' := Lib.hid H1
    have H2' := Lib.hid H2
    clear H1 H2 h
    go_enter Tryd.func98, Tryd.ntmps98
    go_wp2_with fail
    refine H1'.out.mono ?_
    rintro e w1 ⟨rfl, hd1⟩
    go_wp2_with fail
    refine (H2'.out _ hd1).mono ?_
    rintro e w2 ⟨rfl, hd2⟩
    go_wp2
    go_ret3
    exact ⟨⟨_, _, rfl⟩, hd1.trans hd2⟩
set_option maxHeartbeats 400000 in
theorem gcdWords_any (a b : Nat) (w : World) (ha : a < 18446744073709551616) (hb : b < 18446744073709551616) :
    Calls Tryd.prog 102 #[.int .u64 (a : Int), .int .u64 (b : Int)] w fun e w' => e = .returned (.int .u64 ((Nat.gcd a b : Nat) : Int)) ∧ Drawn w w' := by
  go_enter Tryd.func102, Tryd.ntmps102
  go_wp2
  go_loopw [0, 1] (fun s t wr => ∃ x y : Nat, s = .int .u64 x ∧ t = .int .u64 y ∧ x < 18446744073709551616 ∧ y < 18446744073709551616 ∧ Hid (Nat.gcd x y = Nat.gcd a b) ∧ Drawn w wr) (fun _ t _ => (intOf t).toNat)
  case atStart => exact ⟨a, b, rfl, rfl, ha, hb, rfl, Drawn.refl w⟩
  case round =>
    obtain ⟨x, y, rfl, rfl, hx, hy, hg, hd⟩ := hrel
    rcases Nat.eq_zero_or_pos y with h0 | h0
    · subst h0
      go_wp2
      go_ret
      exact ⟨retI (by rw [← hg.out, Nat.gcd_zero_right]), hd⟩
    · have hb1 : ((y : Int) != 0) = true := by simp; omega
      have hb2 : ((y : Int) == 0) = false := by simp; omega
      go_wp2
      go_quiet (fail)
      go_wp2
      have hm := Nat.mod_lt x h0
      have e1 : (((x % y : Nat)) : Int) = (x : Int) % y := Int.natCast_emod x y
      refine ⟨⟨y, x % y, rfl, by rw [e1], hy, by omega, ?_, hd.drewN _⟩, ?_⟩
      · rw [Hid, ← hg.out, Nat.gcd_comm x y, Nat.gcd_rec y x, Nat.gcd_comm]
      · rw [← e1]; simp [intOf]; omega
end Go.Proofs.YtclmenpclkmfeaaDoor
namespace Go.Proofs.YtclmenpclkmfeaaDoor
open Go.RowKit
theorem limbs_nil : Limbs [] := fun x hx => by simp at hx
theorem Slot2.grown {w w1 : World} {g : Nat} {a0 a1 : Value} (h : Slot2 w g a0 a1) {row : Option Nat} (hg : w.grownBy w1 row) (hne : some g ≠ row) : Slot2 w1 g a0 a1 := by
  have e := hg.block g h.2.2.2.2 hne
  exact ⟨(World.cell?_of_block (w := w) (a := ⟨g, 0, none⟩) e).trans h.1, (World.cell?_of_block (w := w) (a := ⟨g, 1, none⟩) e).trans h.2.1,
    (World.frozen?_of_block (w := w) (a := ⟨g, 0, none⟩) e).trans h.2.2.1, (World.frozen?_of_block (w := w) (a := ⟨g, 1, none⟩) e).trans h.2.2.2.1, Nat.lt_of_lt_of_le h.2.2.2.2 hg.size⟩
set_option maxHeartbeats 1000000 in
theorem Made_false (A : Option Addr) (n c B : Nat) (xs : List Nat) (w : World) (ha : Lim w B A n c xs) (hB : B ≤ w.heap.size) (hn : n ≤ 1000000) :
    Calls Tryd.prog 48 #[.slice A n c, .bool false] w (RetInt w (zOf false (val xs))) := by
  have hcap := ha.cap
  have hnc : n ≤ c := by omega
  have hcm : c ≤ 9223372036854775807 := by omega
  clear hcap
  have HL := Lib.hid ha.len
  have hLx : Limbs xs := ha.lt
  have S0 := Slot2.new w (.bool false) (.slice none 0 0) 28
  have E0 := Own.empty (w.alloc (.cells #[.bool false, .slice none 0 0] 28)) (w.heap.size + 1) (by simp)
  rw [World.size_alloc] at E0
  go_enter Tryd.func48, Tryd.ntmps48
  go_wp2
  go_loop [5] (fun i => ∃ k : Nat, k ≤ n ∧ i = .int .i64 k ∧ Hid (∀ j : Nat, k ≤ j → j < n → xs.getD j 0 = 0)) (fun i => (intOf i).toNat)
  case atStart => exact ⟨n, by omega, rfl, fun j h1 h2 => absurd h1 (by omega)⟩
  case round =>
    obtain ⟨k, hkn, rfl, hz⟩ := hrel
    rcases Nat.eq_zero_or_pos k with h0 | h0
    · subst h0
      have HV := Lib.hid (digs_take hLx 0 (by omega) (fun j h1 h2 => hz.out j h1 (by rw [HL.out] at h2; exact h2)) (fun h => absurd h (by omega)))
      have hv0 : val xs = 0 := by have := HV.out; rwa [List.take_zero, digs_ne] at this
      have HV0 := Lib.hid hv0
      clear hv0
      have HT := (((ha.take (0) (by omega)).more hB).alloc (Nat.le_refl _) (.cells #[.bool false, .slice none 0 0] 28)).alloc (by simp) (.cells #[] 69)
      go_wp2_with (at_builtin; refine wpList_append_lim _ rfl (.tmp 25) (.tmp 28) rfl (w.heap.size + 1) (.slice (some ⟨w.heap.size + 1, 0, none⟩) 0 0) 0 [] rfl ?h1 ?h2 w.heap.size A (0) c (xs.take (0)) rfl ?h3 ?h4 ?h5 ?h6)
      all_goals (first | exact E0 | exact HT | exact limbs_nil | omega | simp | skip)
      case h6 =>
        intro A' c' w1 hl ho hg
        have B1 : Below w.heap.size w w1 := (((Below.refl w.heap.size w).alloc (Nat.le_refl _) _).alloc (by simp) _).grown hg (by simp; omega) (fun j hj => by simp [Value.ownBlock] at hj; omega)
        obtain ⟨k0, k1, f0, f1, _⟩ := (Slot2.grown (S0.alloc (.cells #[] 69)) hg (by simp [Value.ownBlock]))
        go_wp2
        refine bodyPost_ret (v := .agg #[.bool false, .slice A' (0 + (0)) c']) (by simp [results, Tryd.results48, go_sem, k0, k1]) rfl ⟨_, A', _, c', rfl, ?_, (B1.setCell (by simp) _).setCell (by simp) _⟩
        refine IsInt.stored ⟨?_, ?_⟩ k0 k1 rfl rfl _ _
        · rw [zOf_neg, HV0.out]; rfl
        · rw [zOf_natAbs, HV.out]; exact hl
    · obtain ⟨k, rfl⟩ : ∃ j, k = j + 1 := ⟨k - 1, by omega⟩
      obtain ⟨ad, rfl, _, x, hx, hxl, hcx⟩ := ((ha.more hB).alloc (Nat.le_refl _) (.cells #[.bool false, .slice none 0 0] 28)).at_ (show k < n by omega)
      by_cases h1 : x = 0
      · subst h1
        go_wp2
        refine ⟨⟨k, by omega, rfl, fun j h1 h2 => ?_⟩, by simp [intOf] <;> omega⟩
        rcases Nat.eq_or_lt_of_le h1 with e | e
        · subst e; exact hx.out.symm
        · exact hz.out j (by omega) h2
      · have hb1 : ((x : Int) == 0) = false := by simp; omega
        have HV := Lib.hid (digs_take hLx (k + 1) (by rw [HL.out]; omega) (fun j h1 h2 => hz.out j h1 (by rw [HL.out] at h2; exact h2)) (fun _ => by rw [Nat.add_sub_cancel, ← hx.out]; exact h1))
        have hv0 : 0 < val xs := by
          rcases Nat.eq_zero_or_pos (val xs) with e | e
          · have h2 := HV.out
            have h3 : (xs.take (k + 1)).length = k + 1 := by rw [List.length_take, HL.out]; omega
            rw [← h2, e, digs_zero] at h3
            simp at h3
          · exact e
        have HV0 := Lib.hid hv0
        clear hv0 h1
        have HT := (((ha.take (k + 1) (by omega)).more hB).alloc (Nat.le_refl _) (.cells #[.bool false, .slice none 0 0] 28)).alloc (by simp) (.cells #[] 69)
        go_wp2_with (at_builtin; refine wpList_append_lim _ rfl (.tmp 25) (.tmp 28) rfl (w.heap.size + 1) (.slice (some ⟨w.heap.size + 1, 0, none⟩) 0 0) 0 [] rfl ?g1 ?g2 w.heap.size (some ad) (k + 1) c (xs.take (k + 1)) rfl ?g3 ?g4 ?g5 ?g6)
        all_goals (first | exact E0 | exact HT | exact limbs_nil | omega | simp | skip)
        case g6 =>
          intro A' c' w1 hl ho hg
          have B1 : Below w.heap.size w w1 := (((Below.refl w.heap.size w).alloc (Nat.le_refl _) _).alloc (by simp) _).grown hg (by simp; omega) (fun j hj => by simp [Value.ownBlock] at hj; omega)
          obtain ⟨k0, k1, f0, f1, _⟩ := (Slot2.grown (S0.alloc (.cells #[] 69)) hg (by simp [Value.ownBlock]))
          go_wp2
          refine bodyPost_ret (v := .agg #[.bool false, .slice A' (k + 1) c']) (by simp [results, Tryd.results48, go_sem, k0, k1]) rfl ⟨_, A', _, c', rfl, ?_, (B1.setCell (by simp) _).setCell (by simp) _⟩
          refine IsInt.stored ⟨?_, ?_⟩ k0 k1 rfl rfl _ _
          · rw [zOf_neg, decide_eq_true HV0.out]; rfl
          · rw [zOf_natAbs, HV.out]; exact hl
set_option maxHeartbeats 1000000 in
theorem Made_true (A : Option Addr) (n c B : Nat) (xs : List Nat) (w : World) (ha : Lim w B A n c xs) (hB : B ≤ w.heap.size) (hn : n ≤ 1000000) :
    Calls Tryd.prog 48 #[.slice A n c, .bool true] w (RetInt w (zOf true (val xs))) := by
  have hcap := ha.cap
  have hnc : n ≤ c := by omega
  have hcm : c ≤ 9223372036854775807 := by omega
  clear hcap
  have HL := Lib.hid ha.len
  have hLx : Limbs xs := ha.lt
  have S0 := Slot2.new w (.bool false) (.slice none 0 0) 28
  have E0 := Own.empty (w.alloc (.cells #[.bool false, .slice none 0 0] 28)) (w.heap.size + 1) (by simp)
  rw [World.size_alloc] at E0
  go_enter Tryd.func48, Tryd.ntmps48
  go_wp2
  go_loop [5] (fun i => ∃ k : Nat, k ≤ n ∧ i = .int .i64 k ∧ Hid (∀ j : Nat, k ≤ j → j < n → xs.getD j 0 = 0)) (fun i => (intOf i).toNat)
  case atStart => exact ⟨n, by omega, rfl, fun j h1 h2 => absurd h1 (by omega)⟩
  case round =>
    obtain ⟨k, hkn, rfl, hz⟩ := hrel
    rcases Nat.eq_zero_or_pos k with h0 | h0
    · subst h0
      have HV := Lib.hid (digs_take hLx 0 (by omega) (fun j h1 h2 => hz.out j h1 (by rw [HL.out] at h2; exact h2)) (fun h => absurd h (by omega)))
      have hv0 : val xs = 0 := by have := HV.out; rwa [List.take_zero, digs_ne] at this
      have HV0 := Lib.hid hv0
      clear hv0
      have HT := (((ha.take (0) (by omega)).more hB).alloc (Nat.le_refl _) (.cells #[.bool false, .slice none 0 0] 28)).alloc (by simp) (.cells #[] 69)
      go_wp2_with (at_builtin; refine wpList_append_lim _ rfl (.tmp 25) (.tmp 28) rfl (w.heap.size + 1) (.slice (some ⟨w.heap.size + 1, 0, none⟩) 0 0) 0 [] rfl ?h1 ?h2 w.heap.size A (0) c (xs.take (0)) rfl ?h3 ?h4 ?h5 ?h6)
      all_goals (first | exact E0 | exact HT | exact limbs_nil | omega | simp | skip)
      case h6 =>
        intro A' c' w1 hl ho hg
        have B1 : Below w.heap.size w w1 := (((Below.refl w.heap.size w).alloc (Nat.le_refl _) _).alloc (by simp) _).grown hg (by simp; omega) (fun j hj => by simp [Value.ownBlock] at hj; omega)
        obtain ⟨k0, k1, f0, f1, _⟩ := (Slot2.grown (S0.alloc (.cells #[] 69)) hg (by simp [Value.ownBlock]))
        go_wp2
        refine bodyPost_ret (v := .agg #[.bool false, .slice A' (0 + (0)) c']) (by simp [results, Tryd.results48, go_sem, k0, k1]) rfl ⟨_, A', _, c', rfl, ?_, (B1.setCell (by simp) _).setCell (by simp) _⟩
        refine IsInt.stored ⟨?_, ?_⟩ k0 k1 rfl rfl _ _
        · rw [zOf_neg, HV0.out]; rfl
        · rw [zOf_natAbs, HV.out]; exact hl
    · obtain ⟨k, rfl⟩ : ∃ j, k = j + 1 := ⟨k - 1, by omega⟩
      obtain ⟨ad, rfl, _, x, hx, hxl, hcx⟩ := ((ha.more hB).alloc (Nat.le_refl _) (.cells #[.bool false, .slice none 0 0] 28)).at_ (show k < n by omega)
      by_cases h1 : x = 0
      · subst h1
        go_wp2
        refine ⟨⟨k, by omega, rfl, fun j h1 h2 => ?_⟩, by simp [intOf] <;> omega⟩
        rcases Nat.eq_or_lt_of_le h1 with e | e
        · subst e; exact hx.out.symm
        · exact hz.out j (by omega) h2
      · have hb1 : ((x : Int) == 0) = false := by simp; omega
        have HV := Lib.hid (digs_take hLx (k + 1) (by rw [HL.out]; omega) (fun j h1 h2 => hz.out j h1 (by rw [HL.out] at h2; exact h2)) (fun _ => by rw [Nat.add_sub_cancel, ← hx.out]; exact h1))
        have hv0 : 0 < val xs := by
          rcases Nat.eq_zero_or_pos (val xs) with e | e
          · have h2 := HV.out
            have h3 : (xs.take (k + 1)).length = k + 1 := by rw [List.length_take, HL.out]; omega
            rw [← h2, e, digs_zero] at h3
            simp at h3
          · exact e
        have HV0 := Lib.hid hv0
        clear hv0 h1
        have HT := (((ha.take (k + 1) (by omega)).more hB).alloc (Nat.le_refl _) (.cells #[.bool false, .slice none 0 0] 28)).alloc (by simp) (.cells #[] 69)
        go_wp2_with (at_builtin; refine wpList_append_lim _ rfl (.tmp 25) (.tmp 28) rfl (w.heap.size + 1) (.slice (some ⟨w.heap.size + 1, 0, none⟩) 0 0) 0 [] rfl ?g1 ?g2 w.heap.size (some ad) (k + 1) c (xs.take (k + 1)) rfl ?g3 ?g4 ?g5 ?g6)
        all_goals (first | exact E0 | exact HT | exact limbs_nil | omega | simp | skip)
        case g6 =>
          intro A' c' w1 hl ho hg
          have B1 : Below w.heap.size w w1 := (((Below.refl w.heap.size w).alloc (Nat.le_refl _) _).alloc (by simp) _).grown hg (by simp; omega) (fun j hj => by simp [Value.ownBlock] at hj; omega)
          obtain ⟨k0, k1, f0, f1, _⟩ := (Slot2.grown (S0.alloc (.cells #[] 69)) hg (by simp [Value.ownBlock]))
          go_wp2
          refine bodyPost_ret (v := .agg #[.bool true, .slice A' (k + 1) c']) (by simp [results, Tryd.results48, go_sem, k0, k1]) rfl ⟨_, A', _, c', rfl, ?_, (B1.setCell (by simp) _).setCell (by simp) _⟩
          refine IsInt.stored ⟨?_, ?_⟩ k0 k1 rfl rfl _ _
          · rw [zOf_neg, decide_eq_true HV0.out]; rfl
          · rw [zOf_natAbs, HV.out]; exact hl
theorem Made_any (neg : Bool) (A : Option Addr) (n c B : Nat) (xs : List Nat) (w : World) (ha : Lim w B A n c xs) (hB : B ≤ w.heap.size) (hn : n ≤ 1000000) :
    Calls Tryd.prog 48 #[.slice A n c, .bool neg] w (RetInt w (zOf neg (val xs))) := by
  cases neg
  · exact Made_false A n c B xs w ha hB hn
  · exact Made_true A n c B xs w ha hB hn
end Go.Proofs.YtclmenpclkmfeaaDoor
namespace Go.Proofs.YtclmenpclkmfeaaDoor
open Go.RowKit
set_option maxHeartbeats 400000 in
theorem rneg_any (neg : Bool) (A : Option Addr) (n c : Nat) (z : Int) (w : World) (ha : IsInt w neg A n c z) (hn : n ≤ 1000000) :
    Calls Tryd.prog 18 #[.agg #[.bool neg, .slice A n c]] w (RetInt w (-z)) := by
  have H2 := fun W (hW : Below w.heap.size w W) => Made_any (!neg) A n c w.heap.size (digs z.natAbs) W (ha.lim.below hW) hW.size hn
  have e1 : zOf (!neg) (val (digs z.natAbs)) = -z := by rw [val_digs, ha.sign]; exact zOf_not z
  simp only [e1] at H2
  have H2' := Lib.hid H2
  clear H2 e1
  obtain ⟨HB, P0, R0⟩ := frame11 w (.bool neg) (.slice A n c)
  go_enter Tryd.func18, Tryd.ntmps18
  go_wp2_with fail
  refine (H2'.out _ HB).mono ?_
  rintro e w2 ⟨neg2, A2, n2, c2, rfl, hi2, hb2⟩
  obtain ⟨k0, k1, f0, f1, _⟩ := R0.after hb2
  go_wp2
  exact bodyPost_ret (v := .agg #[.bool neg2, .slice A2 n2 c2]) (by simp [results, Tryd.results18, go_sem, k0, k1]) rfl
    (RetInt.stored hi2 HB hb2 (by omega) k0 k1 rfl rfl)
set_option maxHeartbeats 400000 in
theorem rabs_any (neg : Bool) (A : Option Addr) (n c : Nat) (z : Int) (w : World) (ha : IsInt w neg A n c z) (hn : n ≤ 1000000) :
    Calls Tryd.prog 30 #[.agg #[.bool neg, .slice A n c]] w (RetInt w (z.natAbs : Int)) := by
  have H2 := fun W (hW : Below w.heap.size w W) => Made_any false A n c w.heap.size (digs z.natAbs) W (ha.lim.below hW) hW.size hn
  have e1 : zOf false (val (digs z.natAbs)) = (z.natAbs : Int) := by rw [val_digs]; rfl
  simp only [e1] at H2
  have H2' := Lib.hid H2
  clear H2 e1
  obtain ⟨HB, P0, R0⟩ := frame11 w (.bool neg) (.slice A n c)
  go_enter Tryd.func30, Tryd.ntmps30
  go_wp2_with fail
  refine (H2'.out _ HB).mono ?_
  rintro e w2 ⟨neg2, A2, n2, c2, rfl, hi2, hb2⟩
  obtain ⟨k0, k1, f0, f1, _⟩ := R0.after hb2
  go_wp2
  exact bodyPost_ret (v := .agg #[.bool neg2, .slice A2 n2 c2]) (by simp [results, Tryd.results30, go_sem, k0, k1]) rfl
    (RetInt.stored hi2 HB hb2 (by omega) k0 k1 rfl rfl)

theorem val_two (x : Nat) : val [x % 4294967296, x / 4294967296] = x := by
  simp only [val]; omega
set_option maxHeartbeats 400000 in
theorem rof_any (n : Int) (w : World) (h1 : -9223372036854775808 ≤ n) (h2 : n ≤ 9223372036854775807) :
    Calls Tryd.prog 26 #[.int .i64 n] w (RetInt w n) := by
  have R0 := Slot2.new w (.bool false) (.slice none 0 0) 28
  have HB := (Below.refl w.heap.size w).alloc (Nat.le_refl _) (.cells #[.bool false, .slice none 0 0] 28)
  have H : ∀ (neg : Bool) (x : Nat) (o : Array Value), x < 18446744073709551616 → zOf neg x = n → o = (ints [x % 4294967296, x / 4294967296]).toArray → Calls Tryd.prog 48 #[.slice (some ⟨w.heap.size + 1, 0, none⟩) 2 2, .bool neg]
      ((w.alloc (.cells #[.bool false, .slice none 0 0] 28)).alloc (.cells o 69)) (RetInt ((w.alloc (.cells #[.bool false, .slice none 0 0] 28)).alloc (.cells o 69)) n) := by
    intro neg x o hx hz ho
    have hr := row_new (w.alloc (.cells #[.bool false, .slice none 0 0] 28)) [x % 4294967296, x / 4294967296] o ho
    rw [World.size_alloc] at hr
    have := Made_any neg (some ⟨w.heap.size + 1, 0, none⟩) 2 2 _ [x % 4294967296, x / 4294967296] _ (hr.len_lim (fun z hz => by simp at hz; omega) 2 rfl (by omega)) (Nat.le_refl _) (by omega)
    rw [val_two x, hz] at this
    exact this
  have H' := Lib.hid H
  clear H
  by_cases h0 : n < 0
  · have HW := Lib.hid (wrap_neg_wrap n h1 h0)
    go_enter Tryd.func26, Tryd.ntmps26
    go_wp2_with fail
    rw [HW.out]
    refine (H'.out true n.natAbs _ (by omega) ?_ ?_).mono ?_
    · unfold zOf; simp; try omega
    · simp [ints]; try omega
    rintro e w2 ⟨neg2, A2, n2, c2, rfl, hi2, hb2⟩
    obtain ⟨k0, k1, f0, f1, _⟩ := (R0.alloc _).after hb2
    go_wp2
    exact bodyPost_ret (v := .agg #[.bool neg2, .slice A2 n2 c2]) (by simp [results, Tryd.results26, go_sem, k0, k1]) rfl
      (RetInt.stored hi2 (HB.alloc (by simp) _) hb2 (by omega) k0 k1 rfl rfl)
  · obtain ⟨n, rfl⟩ := Int.eq_ofNat_of_zero_le (show 0 ≤ n by omega)
    go_enter Tryd.func26, Tryd.ntmps26
    go_wp2_with fail
    refine (H'.out false n _ (by omega) ?_ ?_).mono ?_
    · unfold zOf; simp; try omega
    · simp [ints]; try omega
    rintro e w2 ⟨neg2, A2, n2, c2, rfl, hi2, hb2⟩
    obtain ⟨k0, k1, f0, f1, _⟩ := (R0.alloc _).after hb2
    go_wp2
    exact bodyPost_ret (v := .agg #[.bool neg2, .slice A2 n2 c2]) (by simp [results, Tryd.results26, go_sem, k0, k1]) rfl
      (RetInt.stored hi2 (HB.alloc (by simp) _) hb2 (by omega) k0 k1 rfl rfl)
end Go.Proofs.YtclmenpclkmfeaaDoor
namespace Go.Proofs.YtclmenpclkmfeaaDoor
/-- The product of the numbers of a list of residues (number, residue). -/
def prodP : List (Nat × Nat) → Nat
  | [] => 1
  | x :: l => x.1 * prodP l
theorem prodP_app (l l' : List (Nat × Nat)) : prodP (l ++ l') = prodP l * prodP l' := by
  induction l with
  | nil => simp [prodP]
  | cons x l ih => simp only [List.cons_append, prodP, ih, Nat.mul_assoc]
theorem prodP_dvd {l : List (Nat × Nat)} {x : Nat × Nat} (h : x ∈ l) : x.1 ∣ prodP l := by
  induction l with
  | nil => cases h
  | cons y l ih =>
    rcases List.mem_cons.1 h with rfl | h
    · exact Nat.dvd_mul_right _ _
    · exact Nat.dvd_trans (ih h) (Nat.dvd_mul_left _ _)
/-- What interpolation has reached: a has all residues and is below the product. -/
structure CInv (l : List (Nat × Nat)) (a m : Nat) : Prop where
  prod : m = prodP l
  lt : a < m
  res : ∀ x ∈ l, a % x.1 = x.2
theorem CInv.start : CInv [] 0 1 := ⟨rfl, by decide, fun x h => by cases h⟩
theorem CInv.step {l : List (Nat × Nat)} {a m p v i : Nat} (h : CInv l a m) (hv : v < p) (hi : m * i % p = 1 % p) : CInv (l ++ [(p, v)]) (a + m * ((v + (p - a % p)) % p * i % p)) (m * p) := by
  have hp : 0 < p := by omega
  have hlt : (v + (p - a % p)) % p * i % p < p := Nat.mod_lt _ hp
  have hval : (a + m * ((v + (p - a % p)) % p * i % p)) % p = v := by
    have e1 : (m * ((v + (p - a % p)) % p * i % p)) % p = (v + (p - a % p)) % p := by
      rw [Nat.mul_mod_mod, Nat.mul_comm ((v + (p - a % p)) % p) i, ← Nat.mul_assoc, Nat.mul_mod, hi, ← Nat.mul_mod, Nat.one_mul, Nat.mod_mod]
    rw [Nat.add_mod, e1, Nat.add_mod_mod]
    have h1 : a % p < p := Nat.mod_lt _ hp
    rw [show a % p + (v + (p - a % p)) = v + p by omega, Nat.add_mod_right, Nat.mod_eq_of_lt hv]
  refine ⟨by rw [prodP_app, ← h.prod]; simp [prodP], ?_, fun x hx => ?_⟩
  · have h1 := h.lt
    have h2 : m * ((v + (p - a % p)) % p * i % p + 1) ≤ m * p := Nat.mul_le_mul_left m hlt
    rw [Nat.mul_add, Nat.mul_one] at h2
    omega
  · rcases List.mem_append.1 hx with hx | hx
    · obtain ⟨c, hc⟩ := prodP_dvd hx
      rw [h.prod, hc, Nat.mul_assoc, Nat.add_mul_mod_self_left]
      exact h.res x hx
    · rw [List.mem_singleton] at hx; subst hx; exact hval
/-- Two numbers with the same residues differ by a multiple of the product, where the numbers are coprime in pairs. -/
def Cop (l : List (Nat × Nat)) : Prop := l.Pairwise fun x y => Nat.gcd x.1 y.1 = 1
theorem cop_prod {p : Nat} : ∀ {l : List (Nat × Nat)}, (∀ x ∈ l, Nat.gcd p x.1 = 1) → Nat.gcd p (prodP l) = 1
  | [], _ => by simp [prodP]
  | x :: l, h => by
    show Nat.Coprime p (x.1 * prodP l)
    exact Nat.Coprime.mul_right (h x List.mem_cons_self) (cop_prod fun y hy => h y (List.mem_cons_of_mem _ hy))
theorem prod_dvd {z : Int} : ∀ {l : List (Nat × Nat)}, Cop l → (∀ x ∈ l, ((x.1 : Nat) : Int) ∣ z) → ((prodP l : Nat) : Int) ∣ z
  | [], _, _ => by simp [prodP]
  | x :: l, hc, h => by
    have h1 := h x List.mem_cons_self
    have h2 := prod_dvd (List.pairwise_cons.1 hc).2 fun y hy => h y (List.mem_cons_of_mem _ hy)
    have h3 : Nat.Coprime x.1 (prodP l) := cop_prod fun y hy => (List.pairwise_cons.1 hc).1 y hy
    rw [Int.ofNat_dvd_left] at h1 h2 ⊢
    exact Nat.Coprime.mul_dvd_of_dvd_of_dvd h3 h1 h2
/-- The range of Combine determines the number. -/
theorem range_uniq {a b M : Int} (hd : M ∣ a - b) (ha : -M < 2 * a ∧ 2 * a ≤ M) (hb : -M < 2 * b ∧ 2 * b ≤ M) : a = b := by
  obtain ⟨t, ht⟩ := hd
  rcases Int.lt_trichotomy t 0 with h | h | h
  · have h1 : M * t ≤ M * -1 := Int.mul_le_mul_of_nonneg_left (by omega) (by omega)
    omega
  · subst h; omega
  · have h1 : M * 1 ≤ M * t := Int.mul_le_mul_of_nonneg_left (by omega) (by omega)
    omega
/-- What Combine makes of it. -/
def centre (a m : Nat) : Int := if m < 2 * a then (a : Int) - m else a
theorem centre_range {a m : Nat} (h : a < m) : -(m : Int) < 2 * centre a m ∧ 2 * centre a m ≤ m := by
  unfold centre; split <;> omega
theorem centre_dvd (a m : Nat) : (m : Int) ∣ centre a m - a := by
  unfold centre; split
  · exact ⟨-1, by omega⟩
  · exact ⟨0, by omega⟩
end Go.Proofs.YtclmenpclkmfeaaDoor
namespace Go.Proofs.YtclmenpclkmfeaaDoor
open Go.RowKit
set_option maxHeartbeats 400000 in
theorem less_any (A A' : Option Addr) (n c m d B B' : Nat) (xs ys : List Nat) (w : World) (ha : Lim w B A n c xs) (hb : Lim w B' A' m d ys) :
    Calls Tryd.prog 50 #[.slice A n c, .slice A' m d] w fun e w' => e = .returned (.bool (lessV xs ys)) ∧ Drawn w w' := by
  have hn := ha.cap
  have hm := hb.cap
  have hn' : n ≤ 9223372036854775807 := by omega
  have hm' : m ≤ 9223372036854775807 := by omega
  clear hn hm
  by_cases hnm : n = m
  · subst hnm
    have HL : Hid (xs.length = n ∧ ys.length = n) := ⟨ha.len, hb.len⟩
    have hLx : Limbs xs := ha.lt
    have hLy : Limbs ys := hb.lt
    go_enter Tryd.func50, Tryd.ntmps50
    go_wp2
    go_loopw [5] (fun i wr => ∃ k : Int, -1 ≤ k ∧ k < n ∧ i = .int .i64 k ∧ Hid (∀ j : Nat, k < j → j < n → xs.getD j 0 = ys.getD j 0) ∧ Drawn w wr) (fun i _ => (intOf i + 1).toNat)
    case atStart => exact ⟨n - 1, by omega, by omega, rfl, fun j h1 h2 => absurd h1 (by omega), Drawn.refl w⟩
    case round =>
      obtain ⟨k, hk, hkn, rfl, hgt, hd⟩ := hrel
      by_cases h0 : 0 ≤ k
      · obtain ⟨k, rfl⟩ := Int.eq_ofNat_of_zero_le h0
        have hkn' : k < n := by omega
        obtain ⟨ad, rfl, _, x, hx, hxl, hcx⟩ := (ha.drawn hd).at_ hkn'
        obtain ⟨ad', rfl, _, y, hy, hyl, hcy⟩ := (hb.drawn hd).at_ hkn'
        by_cases hxy : x = y
        · have hb1 : ((x : Int) != y) = false := by simp [hxy]
          have HXY := Lib.hid hxy
          clear hxy
          go_wp2
          go_quiet (fail)
          go_wp2
          go_roundw
          case rel =>
            refine ⟨k - 1, by omega, by omega, rfl, fun j h1 h2 => ?_, hd.drewN _⟩
            rcases Nat.eq_or_lt_of_le (show k ≤ j by omega) with e | e
            · subst e; rw [← hx.out, ← hy.out, HXY.out]
            · exact hgt.out j (by omega) h2
          case measure => simp [intOf] <;> omega
        · have hb1 : ((x : Int) != y) = true := by simp; omega
          have hb2 := Lib.hid hxy
          clear hxy
          go_wp2
          go_quiet (fail)
          go_wp2
          go_quiet (fail)
          go_wp2
          go_ret
          refine ⟨retB ?_, (hd.drewN _).drewN _⟩
          rw [lessV_at hLx hLy (by rw [HL.out.1, HL.out.2]) k (by rw [HL.out.1]; omega) (fun j h1 h2 => hgt.out j (by omega) (by rw [HL.out.1] at h2; exact h2)) (by rw [← hx.out, ← hy.out]; exact hb2.out)]
          rw [← hx.out, ← hy.out]
          try (first | rfl | (congr 1; simp))
      · obtain rfl : k = -1 := by omega
        go_wp2
        go_ret
        refine ⟨retB ?_, hd⟩
        rw [lessV_eq (by rw [HL.out.1, HL.out.2]) (fun j h1 => hgt.out j (by omega) (by rw [HL.out.1] at h1; exact h1))]
  · have hv : lessV xs ys = decide (n < m) := by unfold lessV; rw [ha.len, hb.len, if_neg hnm]
    have HV := Lib.hid hv
    clear hv ha hb
    go_enter Tryd.func50, Tryd.ntmps50
    go_wp2
    go_ret
    refine ⟨retB ?_, Drawn.refl _⟩
    rw [HV.out]

set_option maxHeartbeats 400000 in
theorem same_any (neg neg' : Bool) (A A' : Option Addr) (n c m d : Nat) (a b : Int) (w : World) (ha : IsInt w neg A n c a) (hb : IsInt w neg' A' m d b) :
    Calls Tryd.prog 19 #[.agg #[.bool neg, .slice A n c], .agg #[.bool neg', .slice A' m d]] w fun e w' => e = .returned (.bool (decide (a = b))) ∧ Below w.heap.size w w' := by
  have L1 := fun W (hW : Below w.heap.size w W) => less_any A A' n c m d _ _ _ _ W (ha.lim.below hW) (hb.lim.below hW)
  have L2 := fun W (hW : Below w.heap.size w W) => less_any A' A m d n c _ _ _ _ W (hb.lim.below hW) (ha.lim.below hW)
  rw [lessV_digs] at L1 L2
  have hs := ha.sign
  have hs' := hb.sign
  have L1' := Lib.hid L1
  have L2' := Lib.hid L2
  have HS := Lib.hid hs
  have HS' := Lib.hid hs'
  clear L1 L2 ha hb hs hs'
  by_cases hn : neg = neg'
  · subst hn
    have HB := ((Below.refl w.heap.size w).alloc (Nat.le_refl _) (.cells #[.bool neg, .slice A n c] 28)).alloc (by simp) (.cells #[.bool neg, .slice A' m d] 28)
    by_cases h1 : a.natAbs < b.natAbs
    · rw [decide_eq_true h1] at L1'
      have e : decide (a = b) = false := decide_eq_false (by omega)
      rw [e]
      clear e h1 L2'
      go_enter Tryd.func19, Tryd.ntmps19
      go_wp2_with fail
      refine (L1'.out _ HB).mono ?_
      rintro e w1 ⟨rfl, hd1⟩
      go_wp2
      go_ret
      exact ⟨rfl, HB.trans (hd1.below _)⟩
    · rw [decide_eq_false h1] at L1'
      have e : decide (a = b) = !decide (b.natAbs < a.natAbs) := by
        have e1 := HS.out
        have e2 := HS'.out
        rw [e1] at e2
        by_cases h2 : b.natAbs < a.natAbs
        · rw [decide_eq_true h2, decide_eq_false (by omega)]; rfl
        · have : (a < 0) ↔ (b < 0) := by simpa using e2
          rw [decide_eq_false h2, decide_eq_true (by omega)]; rfl
      rw [e]
      generalize decide (b.natAbs < a.natAbs) = t at *
      clear e h1
      go_enter Tryd.func19, Tryd.ntmps19
      go_wp2_with fail
      refine (L1'.out _ HB).mono ?_
      rintro e w1 ⟨rfl, hd1⟩
      have hb1 := hd1.below (w.heap.size + 1 + 1)
      obtain ⟨hc1, _⟩ := bcell hb1
      go_wp2_with fail
      refine (L2'.out _ (HB.trans (hd1.below _))).mono ?_
      rintro e w2 ⟨rfl, hd2⟩
      go_wp2
      go_ret
      exact ⟨rfl, (HB.trans (hd1.below _)).trans (hd2.below _)⟩
  · have e : decide (a = b) = false := by
      refine decide_eq_false fun h => hn ?_
      rw [HS.out, HS'.out, h]
    have hb1 : (neg == neg') = false := by simpa using hn
    rw [e]
    clear e hn
    go_enter Tryd.func19, Tryd.ntmps19
    go_wp2
    go_ret
    exact ⟨rfl, ((Below.refl _ _).alloc (Nat.le_refl _) _).alloc (by simp) _⟩
end Go.Proofs.YtclmenpclkmfeaaDoor
