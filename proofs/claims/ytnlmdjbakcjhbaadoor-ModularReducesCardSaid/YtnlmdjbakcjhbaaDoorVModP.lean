/- Contracts of modular.passes and modular.Prime, given the two tables. -/
import Derived.Test.YtnlmdjbakcjhbaaDoorVModC
import Derived.Shelf.Spec.TrailingZeros
namespace Go.Proofs.YtnlmdjbakcjhbaaDoor
open Go.RowKit
/-- The two tables that package modular reads. -/
structure TabW (w : World) : Prop where
  t : TabAt 1 Lib.deBruijn64tab w
  b0 : w.cell? ⟨0, 0, none⟩ = some (.int .u64 2)
  b1 : w.cell? ⟨0, 1, none⟩ = some (.int .u64 3)
  b2 : w.cell? ⟨0, 2, none⟩ = some (.int .u64 5)
  b3 : w.cell? ⟨0, 3, none⟩ = some (.int .u64 7)
/-- Both tables lie below N. -/
def TabN (N : Nat) : Prop := 1 < N ∧ 0 < N
theorem TabN.le {N M : Nat} (h : TabN N) (hM : N ≤ M) : TabN M := ⟨Nat.lt_of_lt_of_le h.1 hM, Nat.lt_of_lt_of_le h.2 hM⟩
theorem TabW.below {w w' : World} {N : Nat} (h : TabW w) (hb : Below N w w') (hN : TabN N) : TabW w' :=
  ⟨fun j hj => (hb.cell (p := ⟨1, j, none⟩) hN.1).trans (h.t j hj),
    (hb.cell (p := ⟨0, 0, none⟩) hN.2).trans h.b0,
    (hb.cell (p := ⟨0, 1, none⟩) hN.2).trans h.b1,
    (hb.cell (p := ⟨0, 2, none⟩) hN.2).trans h.b2,
    (hb.cell (p := ⟨0, 3, none⟩) hN.2).trans h.b3⟩
theorem TabW.drawn {w w' : World} (h : TabW w) (hd : Drawn w w') : TabW w' := h.below (hd.below (1 + 0 + 1)) ⟨by omega, by omega⟩
set_option maxHeartbeats 1000000 in
theorem tz_core (x k idx : Nat) (w : World) (hx0 : ((x : Int) == 0) = false)
    (key : IntKind.u64.wrap (bits BinOp.and IntKind.u64 (x : Int) (IntKind.u64.wrap (-(x : Int))) * 285870213051353865) / 288230376151711744 = (idx : Int))
    (hi : idx < 64) (hk : k < 64) (hcell : w.cell? ⟨1, idx, none⟩ = some (.int .u8 k)) :
    Calls Tryd.prog 123 #[.int .u64 x] w fun e w' => e = .returned (.int .i64 k) ∧ w' = w := by
  go_enter Tryd.func123, Tryd.ntmps123
  go_wp2_with (simp only [key])
  go_ret
  exact ⟨rfl, rfl⟩
theorem tz_any (x : Nat) (w : World) (hx : x < 18446744073709551616) (hx0 : x ≠ 0) (hT : TabW w) :
    Calls Tryd.prog 123 #[.int .u64 x] w fun e w' => e = .returned (.int .i64 (Lib.ctz 64 x : Nat)) ∧ w' = w := by
  obtain ⟨hlow, hk⟩ := Lib.lowest_bit 64 x hx0 hx
  obtain ⟨hi, htab⟩ := Lib.deBruijn64_at _ hk
  have hcell := hT.t _ hi
  rw [htab] at hcell
  exact tz_core x _ _ w (by simp; omega) (tz64_key x _ hx hx0 hlow) hi hk hcell
theorem idx_bases (i : Int) (b : Int) (h : (i = 0 ∧ b = 2) ∨ (i = 1 ∧ b = 3) ∨ (i = 2 ∧ b = 5) ∨ (i = 3 ∧ b = 7)) (w : World) :
    (Instr.index 122 (.agg #[.int .u64 2, .int .u64 3, .int .u64 5, .int .u64 7]) (.int .i64 i)).run Tryd.prog w = .ok (.int .u64 b) w := by
  rcases h with ⟨rfl, rfl⟩ | ⟨rfl, rfl⟩ | ⟨rfl, rfl⟩ | ⟨rfl, rfl⟩ <;> kernel_rfl
/-- The i-th square behind x modulo n. -/
def sqs (n x : Nat) : Nat → Nat
  | 0 => x
  | i + 1 => sqs n x i * sqs n x i % n
/-- n passes the test for the base b. -/
def passB (n b : Nat) : Bool := (b ^ ((n - 1) / 2 ^ Lib.ctz 64 (n - 1)) % n == 1) || (List.range (Lib.ctz 64 (n - 1))).any (fun i => sqs n (b ^ ((n - 1) / 2 ^ Lib.ctz 64 (n - 1)) % n) i == n - 1)
def bases4 : List Nat := [2, 3, 5, 7]
set_option maxRecDepth 20000 in
set_option maxHeartbeats 1000000 in
theorem passes_any (n : Nat) (w : World) (hn : 8 ≤ n) (hnl : n < 2147483648) (hT : TabW w) :
    Calls Tryd.prog 107 #[.int .u64 (n : Int)] w fun e w' => e = .returned (.bool (bases4.all (passB n))) ∧ Drawn w w' := by
  have hw1 : IntKind.u64.wrap ((n : Int) - 1) = ((n - 1 : Nat) : Int) := by rw [IntKind.wrap_u64]; omega
  have HZ := tz_any (n - 1) w (by omega) (by omega) hT
  have hk : Lib.ctz 64 (n - 1) < 64 := (Lib.lowest_bit 64 (n - 1) (by omega) (by omega)).2
  have hpass : ∀ b, passB n b = ((b ^ ((n - 1) / 2 ^ Lib.ctz 64 (n - 1)) % n == 1) || (List.range (Lib.ctz 64 (n - 1))).any (fun i => sqs n (b ^ ((n - 1) / 2 ^ Lib.ctz 64 (n - 1)) % n) i == n - 1)) := fun b => rfl
  generalize Lib.ctz 64 (n - 1) = k at *
  have hdl : (n - 1) / 2 ^ k ≤ n - 1 := Nat.div_le_self _ _
  have hde : ((n - 1 : Nat) : Int) / 2 ^ k = (((n - 1) / 2 ^ k : Nat) : Int) := by rw [Int.natCast_ediv, Int.natCast_pow]; rfl
  generalize (n - 1) / 2 ^ k = d at *
  have HPW := fun b W (hb : b < 4294967296) => mpow_any n b d W (by omega) (by omega) hb (by omega)
  have HMU := fun x W (hx : x < 4294967296) => mmul_any n x x W (by omega) hx hx
  have HZ' := Lib.hid HZ
  have HPW' := Lib.hid HPW
  have HMU' := Lib.hid HMU
  have HP := Lib.hid hpass
  clear HZ HPW HMU hpass
  have ⟨_, b0, b1, b2, b3⟩ := hT
  go_enter Tryd.func107, Tryd.ntmps107
  go_wp2_with fail
  go_step3
  go_wp2_with fail
  refine HZ'.out.mono ?_
  rintro e w1 ⟨rfl, rfl⟩
  go_wp2_with fail
  go_step3
  go_wp2_with fail
  go_loopg [11] 4 (fun g s11 wr => ∃ i : Nat, s11 = .int .i64 (i : Int) ∧ i + g = 4 ∧ Hid (∀ j, j < i → passB n (bases4.getD j 0) = true) ∧ Drawn w1 wr)
  case atStart => exact ⟨0, rfl, by omega, fun j h => absurd h (by omega), Drawn.refl _⟩
  case round =>
    obtain ⟨i, rfl, hi, hI, hd⟩ := hrel
    cases gk with
    | zero =>
      obtain rfl : i = 4 := by omega
      go_wp2_with fail
      go_ret
      refine ⟨congrArg (fun b => Ending.returned (.bool b)) ?_, hd⟩
      have h0 := hI.out 0 (by omega)
      have h1 := hI.out 1 (by omega)
      have h2 := hI.out 2 (by omega)
      have h3 := hI.out 3 (by omega)
      have e0 : bases4.getD 0 0 = 2 := rfl
      have e1 : bases4.getD 1 0 = 3 := rfl
      have e2 : bases4.getD 2 0 = 5 := rfl
      have e3 : bases4.getD 3 0 = 7 := rfl
      rw [e0] at h0
      rw [e1] at h1
      rw [e2] at h2
      rw [e3] at h3
      simp [bases4, h0, h1, h2, h3]
    | succ g =>
      have hi4 : i = 0 ∨ i = 1 ∨ i = 2 ∨ i = 3 := by omega
      have main : ∀ b y, b = bases4.getD i 0 → y = b ^ d % n → b < 4294967296 ∧ y < n ∧ (y = 1 → passB n (bases4.getD i 0) = true) ∧ (∀ j, j < k → sqs n y j = n - 1 → passB n (bases4.getD i 0) = true) ∧ (y ≠ 1 → (∀ j, j < k → sqs n y j ≠ n - 1) → bases4.all (passB n) = false) := by
        rintro b y hb rfl
        have hp := HP.out b
        rw [← hb]
        refine ⟨?_, Nat.mod_lt _ (by omega), fun e => ?_, fun j hj e => ?_, fun e h => ?_⟩
        · rcases hi4 with rfl | rfl | rfl | rfl <;> (rw [hb]; decide)
        · rw [hp, e]; rfl
        · rw [hp]
          have : (List.range k).any (fun i => sqs n (b ^ d % n) i == n - 1) = true := List.any_eq_true.2 ⟨j, List.mem_range.2 hj, by rw [e]; simp⟩
          rw [this, Bool.or_true]
        · have h1 : (List.range k).any (fun i => sqs n (b ^ d % n) i == n - 1) = false := by
            rw [Bool.eq_false_iff]
            intro h2
            obtain ⟨j, hj, h3⟩ := List.any_eq_true.1 h2
            exact h j (List.mem_range.1 hj) (by simpa using h3)
          have h2 : (b ^ d % n == 1) = false := by simpa using e
          rw [h1, h2, Bool.or_false] at hp
          rw [Bool.eq_false_iff]
          intro h3
          have hm : b ∈ bases4 := by rw [hb]; rcases hi4 with rfl | rfl | rfl | rfl <;> decide
          have := List.all_eq_true.1 h3 b hm
          rw [hp] at this
          cases this
      obtain ⟨b, hb⟩ : ∃ b, b = bases4.getD i 0 := ⟨_, rfl⟩
      obtain ⟨y, hy⟩ : ∃ y, y = b ^ d % n := ⟨_, rfl⟩
      obtain ⟨m1, m2, m3, m4, m5⟩ := main b y hb hy
      have CP := HPW'.out b wr m1
      rw [← hy] at CP
      have CP' := Lib.hid CP
      have M3 := Lib.hid m3
      have M4 := Lib.hid m4
      have M5 := Lib.hid m5
      have E := Lib.hid hw1
      clear main CP m3 m4 m5 hy
      have step : ∀ v, v = passB n (bases4.getD i 0) → v = true → ∀ j, j < i + 1 → passB n (bases4.getD j 0) = true := by
        intro v hv h1 j hj
        rcases Nat.lt_or_ge j i with q | q
        · exact hI.out j q
        · obtain rfl : j = i := by omega
          rw [← hv, h1]
      have ST := Lib.hid step
      clear step
      rcases hi4 with rfl | rfl | rfl | rfl
      case' inl => obtain rfl : b = 2 := hb; rw [show ((0 : Nat) : Int) = 0 from rfl]; have hix := idx_bases 0 2 (by decide)
      case' inr.inl => obtain rfl : b = 3 := hb; rw [show ((1 : Nat) : Int) = 1 from rfl]; have hix := idx_bases 1 3 (by decide)
      case' inr.inr.inl => obtain rfl : b = 5 := hb; rw [show ((2 : Nat) : Int) = 2 from rfl]; have hix := idx_bases 2 5 (by decide)
      case' inr.inr.inr => obtain rfl : b = 7 := hb; rw [show ((3 : Nat) : Int) = 3 from rfl]; have hix := idx_bases 3 7 (by decide)
      all_goals (
        skip
        go_wp2_with fail
        refine CP'.out.mono ?_
        rintro e w2 ⟨rfl, hd2⟩
        have D2 := hd.trans hd2
        by_cases y1 : y = 1
        · have HT3 := Lib.hid (M3.out y1)
          subst y1
          go_wp2_with fail
          go_roundg g
          case measure => omega
          case rel => exact ⟨_, by first | rfl | simp, by omega, ST.out _ rfl HT3.out, D2⟩
        · have yb : ((y : Int) == 1) = false := by simp; omega
          go_wp2_with fail
          go_loopg [6, 24] k (fun g2 s6 s24 wy => ∃ j x : Nat, s6 = .int .u64 (x : Int) ∧ s24 = .int .i64 (j : Int) ∧ j + g2 = k ∧ x < n ∧ Hid (x = sqs n y j) ∧ Hid (∀ m, m < j → sqs n y m ≠ n - 1) ∧ Drawn w1 wy)
          case atStart => exact ⟨0, y, rfl, rfl, by omega, m2, rfl, fun m h => absurd h (by omega), D2⟩
          case round =>
            obtain ⟨j, x, rfl, rfl, hj, hx, hs, hall, hd3⟩ := hrel
            cases gk with
            | zero =>
              obtain rfl : j = k := by omega
              have HF := Lib.hid (M5.out y1 hall.out)
              go_wp2_with fail
              try rw [Exit.noGoto_ret]
              go_ret
              exact ⟨by rw [HF.out]; rfl, hd3⟩
            | succ g2 =>
              have hjk : j < k := by omega
              by_cases hxn : x = n - 1
              · have HP2 := Lib.hid (M4.out j hjk (by rw [← hs.out]; exact hxn))
                subst hxn
                go_wp2_with fail
                go_roundg g
                case measure => omega
                case rel => exact ⟨_, by first | rfl | simp, by omega, ST.out _ rfl HP2.out, hd3⟩
              · have xb : ((x : Int) == ((n - 1 : Nat) : Int)) = false := by simp; omega
                go_wp2_with fail
                refine (HMU'.out x _ (by omega)).mono ?_
                rintro e w4 ⟨rfl, hd4⟩
                go_wp2_with fail
                go_roundg g2
                case measure => omega
                case rel =>
                  refine ⟨j + 1, x * x % n, by first | rfl | simp, by first | rfl | simp, by omega, Nat.mod_lt _ (by omega), ?_, ?_, hd3.trans hd4⟩
                  · rw [Hid, hs.out]; rfl
                  · intro m hm
                    rcases Nat.lt_or_ge m j with q | q
                    · exact hall.out m q
                    · obtain rfl : m = j := by omega
                      rw [← hs.out]; exact hxn)
theorem rem_zero (n b : Nat) : ((n : Int) % (b : Int) == 0) = decide (n % b = 0) := by
  rw [Bool.eq_iff_iff, decide_eq_true_iff, beq_iff_eq]; omega
theorem eq_cast (n b : Nat) : ((n : Int) == (b : Int)) = (n == b) := by
  rw [Bool.eq_iff_iff, beq_iff_eq, beq_iff_eq]; omega
/-- Whether n is taken for a prime below 2^31. -/
def primeF (n : Nat) : Bool := if n < 2 ∨ 2147483648 ≤ n then false else if n % 2 = 0 then n == 2 else if n % 3 = 0 then n == 3 else if n % 5 = 0 then n == 5 else if n % 7 = 0 then n == 7 else bases4.all (passB n)
set_option maxRecDepth 20000 in
set_option maxHeartbeats 1000000 in
theorem prime_any (n : Nat) (w : World) (hnl : n < 18446744073709551616) (hT : TabW w) :
    Calls Tryd.prog 80 #[.int .u64 (n : Int)] w fun e w' => e = .returned (.bool (primeF n)) ∧ Drawn w w' := by
  obtain ⟨v, hv⟩ : ∃ v, v = primeF n := ⟨_, rfl⟩
  rw [← hv]
  unfold primeF at hv
  have ⟨_, b0, b1, b2, b3⟩ := hT
  have j0 := idx_bases 0 2 (by decide)
  have j1 := idx_bases 1 3 (by decide)
  have j2 := idx_bases 2 5 (by decide)
  have j3 := idx_bases 3 7 (by decide)
  by_cases h0 : n < 2
  · rw [if_pos (.inl h0)] at hv
    subst hv
    go_enter Tryd.func80, Tryd.ntmps80
    go_wp2_with fail
    go_ret
    exact ⟨rfl, Drawn.refl _⟩
  · by_cases h1 : 2147483648 ≤ n
    · rw [if_pos (.inr h1)] at hv
      subst hv
      go_enter Tryd.func80, Tryd.ntmps80
      go_wp2_with fail
      go_ret
      exact ⟨rfl, Drawn.refl _⟩
    · rw [if_neg (by omega)] at hv
      have k1 : n < 2147483648 := by omega
      have main : ∀ i, i < 4 → (∀ j, j < i → n % bases4.getD j 0 ≠ 0) → n % bases4.getD i 0 = 0 → v = (n == bases4.getD i 0) := by
        intro i hi ha hz
        have a0 : 0 < i → n % 2 ≠ 0 := fun h => ha 0 h
        have a1 : 1 < i → n % 3 ≠ 0 := fun h => ha 1 h
        have a2 : 2 < i → n % 5 ≠ 0 := fun h => ha 2 h
        have hi4 : i = 0 ∨ i = 1 ∨ i = 2 ∨ i = 3 := by omega
        rcases hi4 with rfl | rfl | rfl | rfl
        · rw [hv]; have hz : n % 2 = 0 := hz; rw [if_pos hz]; rfl
        · rw [hv]; have hz : n % 3 = 0 := hz; rw [if_neg (a0 (by omega)), if_pos hz]; rfl
        · rw [hv]; have hz : n % 5 = 0 := hz; rw [if_neg (a0 (by omega)), if_neg (a1 (by omega)), if_pos hz]; rfl
        · rw [hv]; have hz : n % 7 = 0 := hz; rw [if_neg (a0 (by omega)), if_neg (a1 (by omega)), if_neg (a2 (by omega)), if_pos hz]; rfl
      have last : (∀ j, j < 4 → n % bases4.getD j 0 ≠ 0) → 8 ≤ n ∧ v = bases4.all (passB n) := by
        intro ha
        have a0 : n % 2 ≠ 0 := ha 0 (by omega)
        have a1 : n % 3 ≠ 0 := ha 1 (by omega)
        have a2 : n % 5 ≠ 0 := ha 2 (by omega)
        have a3 : n % 7 ≠ 0 := ha 3 (by omega)
        refine ⟨?_, ?_⟩
        · rcases Nat.lt_or_ge n 8 with q | q
          · exfalso
            have hn : n = 2 ∨ n = 3 ∨ n = 4 ∨ n = 5 ∨ n = 6 ∨ n = 7 := by omega
            rcases hn with rfl | rfl | rfl | rfl | rfl | rfl
            · exact a0 rfl
            · exact a1 rfl
            · exact a0 rfl
            · exact a2 rfl
            · exact a0 rfl
            · exact a3 rfl
          · exact q
        rw [hv, if_neg a0, if_neg a1, if_neg a2, if_neg a3]
      have MN := Lib.hid main
      have LS := Lib.hid last
      clear main last hv
      go_enter Tryd.func80, Tryd.ntmps80
      go_wp2_with fail
      go_loopg [12] 4 (fun g s12 wr => ∃ i : Nat, s12 = .int .i64 (i : Int) ∧ i + g = 4 ∧ Hid (∀ j, j < i → n % bases4.getD j 0 ≠ 0) ∧ Drawn w wr)
      case atStart => exact ⟨0, rfl, by omega, fun j h => absurd h (by omega), Drawn.refl _⟩
      case round =>
        obtain ⟨i, rfl, hi, hI, hd⟩ := hrel
        cases gk with
        | zero =>
          obtain rfl : i = 4 := by omega
          obtain ⟨h8, hvp⟩ := LS.out hI.out
          have CP := Lib.hid (passes_any n wr h8 k1 (hT.drawn hd))
          rw [← hvp] at CP
          clear hvp
          go_wp2_with fail
          refine CP.out.mono ?_
          rintro e w2 ⟨rfl, hd2⟩
          go_wp2_with fail
          go_ret
          exact ⟨rfl, hd.trans hd2⟩
        | succ g =>
          have hi4 : i = 0 ∨ i = 1 ∨ i = 2 ∨ i = 3 := by omega
          obtain ⟨b, hb⟩ : ∃ b, b = bases4.getD i 0 := ⟨_, rfl⟩
          have M1 := MN.out i (by omega) hI.out
          rw [← hb] at M1
          have M2 : n % b ≠ 0 → ∀ j, j < i + 1 → n % bases4.getD j 0 ≠ 0 := by
            intro h j hj
            rcases Nat.lt_or_ge j i with q | q
            · exact hI.out j q
            · obtain rfl : j = i := by omega
              rwa [← hb]
          have m1 := Lib.hid M1
          have m2 := Lib.hid M2
          clear M1 M2
          rcases hi4 with rfl | rfl | rfl | rfl
          case' inl =>
            obtain rfl : b = 2 := hb
            rw [show ((0 : Nat) : Int) = 0 from rfl]
            have rz : ((n : Int) % 2 == 0) = decide (n % 2 = 0) := rem_zero n 2
            have ez : ((n : Int) == 2) = (n == 2) := eq_cast n 2
            have m3 := Lib.hid ez
            clear ez
            generalize hq : decide (n % 2 = 0) = q at rz
          case' inr.inl =>
            obtain rfl : b = 3 := hb
            rw [show ((1 : Nat) : Int) = 1 from rfl]
            have rz : ((n : Int) % 3 == 0) = decide (n % 3 = 0) := rem_zero n 3
            have ez : ((n : Int) == 3) = (n == 3) := eq_cast n 3
            have m3 := Lib.hid ez
            clear ez
            generalize hq : decide (n % 3 = 0) = q at rz
          case' inr.inr.inl =>
            obtain rfl : b = 5 := hb
            rw [show ((2 : Nat) : Int) = 2 from rfl]
            have rz : ((n : Int) % 5 == 0) = decide (n % 5 = 0) := rem_zero n 5
            have ez : ((n : Int) == 5) = (n == 5) := eq_cast n 5
            have m3 := Lib.hid ez
            clear ez
            generalize hq : decide (n % 5 = 0) = q at rz
          case' inr.inr.inr =>
            obtain rfl : b = 7 := hb
            rw [show ((3 : Nat) : Int) = 3 from rfl]
            have rz : ((n : Int) % 7 == 0) = decide (n % 7 = 0) := rem_zero n 7
            have ez : ((n : Int) == 7) = (n == 7) := eq_cast n 7
            have m3 := Lib.hid ez
            clear ez
            generalize hq : decide (n % 7 = 0) = q at rz
          all_goals (
            cases q
            case' true => have hv := Lib.hid (m1.out (of_decide_eq_true hq))
            case' false => have hv := Lib.hid (m2.out (of_decide_eq_false hq))
            clear hq)
          case succ.inl.true | succ.inr.inl.true | succ.inr.inr.inl.true | succ.inr.inr.inr.true =>
            go_wp2_with fail
            go_ret
            exact ⟨by rw [hv.out, ← m3.out]; rfl, hd⟩
          case succ.inl.false | succ.inr.inl.false | succ.inr.inr.inl.false | succ.inr.inr.inr.false =>
            go_wp2_with fail
            go_roundg g
            case measure => omega
            case rel => exact ⟨_, by first | rfl | simp, by omega, hv.out, hd⟩
end Go.Proofs.YtnlmdjbakcjhbaaDoor
