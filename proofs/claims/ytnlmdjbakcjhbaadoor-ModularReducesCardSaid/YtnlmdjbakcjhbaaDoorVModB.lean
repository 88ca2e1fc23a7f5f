/- Contracts of modular.Inv and torsionref03.Inv. -/
import Derived.Test.YtnlmdjbakcjhbaaDoorVModA
namespace Go.Proofs.YtnlmdjbakcjhbaaDoor
open Go.RowKit
theorem qinv_zero (p : Nat) (w : World) (hp : 0 < p) :
    Calls Tryd.prog 31 #[.int .u64 (p : Int), .int .u64 0] w fun x w' => x = .returned (.tuple #[.int .u64 0, .int .i64 30]) ∧ Drawn w w' := by
  have hp0 : ((p : Int) == 0) = false := by simp; omega
  go_enter Tryd.func31, Tryd.ntmps31
  go_wp2
  go_ret2
  exact ⟨rfl, Drawn.refl w⟩
set_option maxHeartbeats 400000 in
theorem qinv_any (p a : Nat) (w : World) (hp : 2 ≤ p) (hpl : p ≤ 4294967296) (ha : a < p) (h0 : 0 < a) :
    Calls Tryd.prog 31 #[.int .u64 (p : Int), .int .u64 (a : Int)] w fun x w' => x = .returned (.tuple #[.int .u64 ((a ^ (p - 2) % p : Nat) : Int), .int .i64 0]) ∧ Drawn w w' := by
  have hp0 : ((p : Int) == 0) = false := by simp; omega
  have hm : (a : Int) % (p : Int) = (a : Int) := Int.emod_eq_of_lt (by omega) (by omega)
  have ha0 : ((a : Int) == 0) = false := by simp; omega
  have hw : IntKind.u64.wrap ((p : Int) - 2) = ((p - 2 : Nat) : Int) := by rw [IntKind.wrap_u64]; omega
  have H := fun W => qpow_any p a (p - 2) W (by omega) hpl (by omega) (by omega)
  have H' := Lib.hid H
  clear H
  go_enter Tryd.func31, Tryd.ntmps31
  go_wp2_with fail
  refine (H'.out _).mono ?_
  rintro x w1 ⟨rfl, hd1⟩
  go_wp2
  go_ret2
  exact ⟨rfl, hd1⟩
set_option maxHeartbeats 1000000 in
theorem minv_any (p a : Nat) (w : World) (hp : IsPrime p) (hpl : p < 2147483648) (ha : a < p) (h0 : 0 < a) :
    Calls Tryd.prog 30 #[.int .u64 (p : Int), .int .u64 (a : Int)] w fun x w' => ∃ d : Nat, x = .returned (.tuple #[.int .u64 (d : Int), .int .i64 0]) ∧ InvOk p a d ∧ Drawn w w' := by
  have HP := Lib.hid hp
  clear hp
  go_enter Tryd.func30, Tryd.ntmps30
  go_wp2_with fail
  go_loopw [6, 7, 8, 9] (fun s6 s7 s8 s9 wr => ∃ (g r : Nat) (t t' : Int), s6 = .int .u64 g ∧ s7 = .int .u64 r ∧ s8 = .int .i64 t ∧ s9 = .int .i64 t' ∧ g ≤ p ∧ r ≤ p ∧ 0 < g ∧ Hid (∃ s s' : Int, ExtInv p a g r s s' t t') ∧ Drawn w wr) (fun _ s7 _ _ _ => (intOf s7).toNat)
  case atStart => exact ⟨p, a, 0, 1, rfl, rfl, rfl, rfl, by omega, by omega, by omega, ⟨1, 0, ExtInv.start p a⟩, Drawn.refl w⟩
  case round =>
    obtain ⟨g, r, t, t', rfl, rfl, rfl, rfl, hg, hr, hg0, hI, hd⟩ := hrel
    rcases Nat.eq_zero_or_pos r with hr0 | hr0
    · subst hr0
      obtain ⟨s, s', inv⟩ := hI.out
      obtain ⟨rfl, d1, d2, d3⟩ := inv.inv HP.out h0 ha
      clear hI inv
      by_cases ht : t < 0
      · rw [if_pos ht] at d1 d2 d3
        have DD := Lib.hid d3
        have hw : IntKind.i64.wrap (t + p) = t + p := by rw [IntKind.wrap_i64]; omega
        clear d3
        go_wp2_with fail
        go_ret2
        exact ⟨(t + p).toNat, by simp; omega, DD.out, hd⟩
      · rw [if_neg ht] at d1 d2 d3
        have DD := Lib.hid d3
        clear d3
        go_wp2_with fail
        go_ret2
        exact ⟨t.toNat, by simp; omega, DD.out, hd⟩
    · have hb1 : ((r : Int) != 0) = true := by simp; omega
      have hb2 : ((r : Int) == 0) = false := by simp; omega
      obtain ⟨s, s', inv⟩ := hI.out
      have i1 := inv.small.2 hr0
      have i2 := (inv.small.1 hg0).1
      have st := inv.step hr0
      have i3 := (st.small.1 hr0).1
      have i4 := (natAbs_step (g / r) inv.g2).1
      have hq : g / r ≤ g := Nat.div_le_self g r
      have hm := Nat.mod_lt g hr0
      have HI2 : Hid (∃ s s' : Int, ExtInv p a r (g % r) s s' t' (t - (g / r : Nat) * t')) := ⟨_, _, st⟩
      have e4 : ((g / r : Nat) * t').natAbs = (g / r) * t'.natAbs := by rw [Int.natAbs_mul, Int.natAbs_natCast]
      have e5 : (g : Int) / (r : Int) = ((g / r : Nat) : Int) := rfl
      have e6 : (g : Int) % (r : Int) = ((g % r : Nat) : Int) := rfl
      clear inv st hI
      generalize g / r = q at *
      generalize g % r = r2 at *
      have w1 : wrap64 ((q : Int)) = q := by rw [w64, w_small (by rw [Int.natAbs_natCast]; omega)]
      have w2 : wrap64 ((q : Int) * t') = q * t' := by rw [w64, w_small (by rw [e4]; omega)]
      have w3 : wrap64 (t - (q : Int) * t') = t - q * t' := by rw [w64, w_small (by omega)]
      have hq64 : q < 18446744073709551616 := Nat.lt_of_le_of_lt hq (by omega)
      have w0 : IntKind.u64.wrap (q : Int) = q := u64_nat hq64
      clear i1 i2 i3 i4 e4
      have W3 := Lib.hid w3
      have E6 := Lib.hid e6
      clear w3 e6
      go_wp2_with fail
      go_quiet (fail)
      go_wp2_with fail
      refine ⟨⟨r, r2, t', t - q * t', rfl, retV E6.out, rfl, retV W3.out, by omega, by omega, hr0, HI2, hd.drewN _⟩, ?_⟩
      rw [E6.out]
      simp only [intOf]; omega
end Go.Proofs.YtnlmdjbakcjhbaaDoor
