/- Contract of integer.shiftUp. Contract of integer.shiftDown. Contracts of integer.words, gcdOfWords. Contracts of integer.isNumber. Contracts of integer.groupValue and appendGroup. Contract of integer.powerOfTwo. Contract of torsionref01.plus. Contract of torsionref01.minus. Contracts of torsionref01.Add, Sub and Cmp. -/
import Derived.Test.YtnlmdjbakcjhbaaDoorVG0Words
import Derived.Test.YtnlmdjbakcjhbaaDoorVG1Of
import Derived.Test.YtnlmdjbakcjhbaaDoorVG2Made
namespace Go.Proofs.YtnlmdjbakcjhbaaDoor
open Go.RowKit
theorem or_high (s : Nat) (hs : s < 32) (x q : Nat) (hq : q < 2 ^ s) : bits .or .u32 (q : Int) ((x * 2 ^ s : Nat) % 4294967296 : Int) = ((x * 2 ^ s % 4294967296 + q : Nat) : Int) := by
  have h32 : (4294967296 : Nat) = 2 ^ s * 2 ^ (32 - s) := by rw [← Nat.pow_add, show s + (32 - s) = 32 by omega]
  have hql : q < 4294967296 := Nat.lt_of_lt_of_le hq (by rw [h32]; exact Nat.le_mul_of_pos_right _ (Nat.two_pow_pos _))
  have e : x * 2 ^ s % 4294967296 = 2 ^ s * (x % 2 ^ (32 - s)) := by rw [h32, Nat.mul_comm x, Nat.mul_mod_mul_left]
  have em : (((x * 2 ^ s : Nat) : Int) % 4294967296) = ((x * 2 ^ s % 4294967296 : Nat) : Int) := by omega
  have hm := Nat.mod_lt (x * 2 ^ s) (show 0 < 4294967296 by omega)
  rw [em, u32_or_nat _ _ (by omega) (by omega), Nat.or_comm, e, ← Nat.two_pow_add_eq_or_of_lt hq]
theorem val_take_set2 (R : List Nat) (k u v : Nat) (h : k + 1 < R.length) : val (((R.set k u).set (k + 1) v).take (k + 1 + 1)) = val (R.take k) + 4294967296 ^ k * u + 4294967296 ^ (k + 1) * v := by
  rw [val_set_take _ _ _ (by rw [List.length_set]; omega), val_set_take _ _ _ (by omega)]
theorem shu_step {X V P T x q t lo : Nat} (h : V + P * q = X * T) (ht : t = x * T) (hlo : lo = t % 4294967296 + q) : V + P * lo + P * 4294967296 * (t / 4294967296) = (X + P * x) * T := by
  subst ht hlo
  have e1 : P * (x * T) = P * (4294967296 * (x * T / 4294967296) + x * T % 4294967296) := by rw [Nat.div_add_mod]
  rw [Nat.add_mul, ← h, Nat.mul_assoc P x T, e1, Nat.mul_add, Nat.mul_add, Nat.mul_assoc]
  omega
/-- A fresh row of limbs comes back. -/
def RetRow (w : World) (n : Nat) (v : Nat) (e : Ending) (w' : World) : Prop := ∃ R : List Nat, e = .returned (.slice (some ⟨w.heap.size, 0, none⟩) n n) ∧ Row w' w.heap.size R ∧ Limbs R ∧ R.length = n ∧ val R = v ∧ Below w.heap.size w w'
set_option maxHeartbeats 1000000 in
theorem shiftUp_any (A : Option Addr) (n c B s : Nat) (xs : List Nat) (w : World) (ha : Lim w B A n c xs) (hB : B ≤ w.heap.size) (hn : n ≤ 1000000) (hs : s < 32) :
    Calls Tryd.prog 114 #[.slice A n c, .int .i64 (s : Int)] w (RetRow w (n + 1) (val xs * 2 ^ s)) := by
  have hmk : ∀ W : World, (Instr.makeSlice 22 (.int .i64 ((n : Int) + 1)) (.int .i64 ((n : Int) + 1))).run Tryd.prog W =
    .ok (.slice (some ⟨W.heap.size, 0, none⟩) (n + 1) (n + 1)) (W.alloc (.cells (madeCells #[.int .u32 0] (n + 1)) 67)) := fun W => make_u32 (n + 1) (by omega) W
  go_enter Tryd.func114, Tryd.ntmps114
  go_wp2
  go_loopw [14] (fun i wr => ∃ k q : Nat, ∃ R : List Nat, k ≤ n ∧ i = .int .i64 k ∧ q < 2 ^ s ∧ Row wr w.heap.size R ∧ Limbs R ∧ Hid (R.length = n + 1) ∧ Hid (R.getD k 0 = q) ∧ Hid (val (R.take (k + 1)) = val (xs.take k) * 2 ^ s) ∧ Below w.heap.size w wr) (fun i _ => n - (intOf i).toNat)
  case atStart =>
    refine ⟨0, 0, _, by omega, rfl, Nat.two_pow_pos _, Row.made w (n + 1), limbs_zeros _, by simp [Hid], ?_, ?_, (Below.refl _ _).alloc (Nat.le_refl _) _⟩
    · simp [Hid, List.replicate_succ]
    · simp [Hid, val, List.replicate_succ]
  case round =>
    obtain ⟨k, q, R, hk, rfl, hq, hR, hL, hlen, hrk, hv, hbel⟩ := hrel
    by_cases hkn : k < n
    · obtain ⟨ad, rfl, _, x, hx, hxl, hcx⟩ := (ha.below (hbel.mono hB)).at_ hkn
      have hcr := hR.cell (k := k) (by rw [hlen.out]; omega)
      rw [hrk.out] at hcr
      have hcr1 := hR.cell (k := k + 1) (by rw [hlen.out]; omega)
      have hfr := hR.frozen k
      have hfr1 := hR.frozen (k + 1)
      have hB32 : (4294967296 : Nat) = 2 ^ s * 2 ^ (32 - s) := by rw [← Nat.pow_add, show s + (32 - s) = 32 by omega]
      have hsl : 2 ^ s ≤ 2147483648 := (Nat.pow_le_pow_right (show 0 < 2 by omega) (show s ≤ 31 by omega) : 2 ^ s ≤ 2 ^ 31)
      obtain ⟨t, ht⟩ : ∃ t : Nat, t = x * 2 ^ s := ⟨_, rfl⟩
      have htl : t < 9223372036854775808 := by
        rw [ht]
        have : x * 2 ^ s ≤ 4294967295 * 2147483648 := Nat.mul_le_mul (by omega) hsl
        omega
      have hxt : (x : Int) * 2 ^ s = (t : Int) := by rw [ht, Int.natCast_mul, Int.natCast_pow]; rfl
      have e1 := or_high s hs x q hq
      rw [← ht] at e1
      have htq : t / 4294967296 < 2 ^ s := by
        rw [Nat.div_lt_iff_lt_mul (by omega), ht, Nat.mul_comm]
        exact Nat.mul_lt_mul_of_pos_left hxl (Nat.two_pow_pos _)
      obtain ⟨lo, hlo⟩ : ∃ lo, lo = t % 4294967296 + q := ⟨_, rfl⟩
      have hlol : lo < 4294967296 := by
        have e : t % 4294967296 = 2 ^ s * (x % 2 ^ (32 - s)) := by rw [ht, hB32, Nat.mul_comm x, Nat.mul_mod_mul_left]
        have h1 := Nat.mod_lt x (Nat.two_pow_pos (32 - s))
        have h2 : 2 ^ s * (x % 2 ^ (32 - s) + 1) ≤ 2 ^ s * 2 ^ (32 - s) := Nat.mul_le_mul_left _ h1
        rw [Nat.mul_add] at h2
        omega
      rw [← hlo] at e1
      have HT := Lib.hid ht
      have HLO := Lib.hid hlo
      have HB32 := Lib.hid hB32
      clear ht hlo hB32
      have w0 : IntKind.u64.wrap (t : Int) = (t : Int) := by rw [IntKind.wrap_u64]; omega
      have e2 : (t : Int) / 4294967296 % 4294967296 = ((t / 4294967296 : Nat) : Int) := by omega
      go_wp2
      go_roundw
      case rel =>
        refine ⟨k + 1, t / 4294967296, (R.set k lo).set (k + 1) (t / 4294967296), by omega, by go_num, htq, ?_, limbs_set (limbs_set hL _ hlol) _ (by omega), by rw [Hid, List.length_set, List.length_set]; exact hlen.out, ?_, ?_, (hbel.setCell (by simp) _).setCell (by simp) _⟩
        · exact (hR.set _ _).set _ _
        · rw [Hid, List.getD_eq_getElem?_getD, List.getElem?_set_self (by rw [List.length_set, hlen.out]; omega)]; rfl
        · rw [Hid, val_take_set2 _ _ _ _ (by rw [hlen.out]; omega), val_take_succ xs, ← hx.out, Nat.pow_succ]
          have h1 := hv.out
          rw [val_take_succ, hrk.out] at h1
          exact shu_step h1 HT.out HLO.out
      case measure => simp [intOf]; omega
    · obtain rfl : k = n := by omega
      go_wp2
      go_ret
      refine ⟨R, rfl, hR, hL, hlen.out, ?_, hbel⟩
      have h1 := hv.out
      rw [List.take_of_length_le (by rw [hlen.out]; exact Nat.le_refl _), List.take_of_length_le (by rw [ha.len]; exact Nat.le_refl _)] at h1
      exact h1
end Go.Proofs.YtnlmdjbakcjhbaaDoor
namespace Go.Proofs.YtnlmdjbakcjhbaaDoor
open Go.RowKit
set_option maxHeartbeats 1000000 in
theorem shiftDown_any (A : Option Addr) (n c B s : Nat) (xs : List Nat) (w : World) (ha : Lim w B A n c xs) (hB : B ≤ w.heap.size) (hn : n ≤ 1000000) (hs : s < 32) :
    Calls Tryd.prog 90 #[.slice A n c, .int .i64 (s : Int)] w fun e w' => ∃ zs, RetSl w zs e w' ∧ val zs = val xs / 2 ^ s ∧ zs.length = n := by
  have hmk := fun W => make_u32 n (by omega) W
  go_enter Tryd.func90, Tryd.ntmps90
  go_wp2
  go_loopw [6, 7] (fun hi i wr => ∃ k : Int, ∃ h : Nat, ∃ R : List Nat, -1 ≤ k ∧ k < n ∧ i = .int .i64 k ∧ hi = .int .u64 h ∧ h < 18446744073709551616 ∧ Row wr w.heap.size R ∧ Limbs R ∧ Hid (R.length = n) ∧ Hid (h % 4294967296 = xs.getD (k + 1).toNat 0) ∧
    Hid (val (R.drop (k + 1).toNat) = val (xs.drop (k + 1).toNat) / 2 ^ s) ∧ Below w.heap.size w wr) (fun _ i _ => (intOf i + 1).toNat)
  case atStart =>
    refine ⟨n - 1, 0, _, by omega, by omega, rfl, rfl, by omega, Row.made w n, limbs_zeros _, by simp [Hid], ?_, ?_, (Below.refl _ _).alloc (Nat.le_refl _) _⟩
    · rw [Hid, show ((n : Int) - 1 + 1).toNat = n by omega, List.getD_eq_getElem?_getD, List.getElem?_eq_none (by rw [ha.len]; exact Nat.le_refl _)]; rfl
    · rw [Hid, show ((n : Int) - 1 + 1).toNat = n by omega, List.drop_of_length_le (by simp), List.drop_of_length_le (by rw [ha.len]; exact Nat.le_refl _)]; simp [val]
  case round =>
    obtain ⟨k, h, R, hk, hkn, rfl, rfl, hh, hR, hL, hlen, hm, hv, hbel⟩ := hrel
    by_cases h0 : 0 ≤ k
    · obtain ⟨k, rfl⟩ := Int.eq_ofNat_of_zero_le h0
      have hkn' : k < n := by omega
      obtain ⟨ad, rfl, _, x, hx, hxl, hcx⟩ := (ha.below (hbel.mono hB)).at_ hkn'
      have hcr := hR.cell (k := k) (by rw [hlen.out]; omega)
      have hfr := hR.frozen k
      go_wp2
      have e1 : bits BinOp.or IntKind.u64 (IntKind.u64.wrap ((h : Int) * 4294967296)) (x : Int) = ((x + 4294967296 * (h % 4294967296) : Nat) : Int) := by
        have e0 : IntKind.u64.wrap ((h : Int) * 4294967296) = ((h % 4294967296 : Nat) : Int) * 4294967296 := by rw [IntKind.wrap_u64]; omega
        rw [e0]; exact or_limbs x (h % 4294967296) hxl (Nat.mod_lt _ (by omega))
      rw [e1]
      have hml := Nat.mod_lt h (show 0 < 4294967296 by omega)
      have e2 : ((((x + 4294967296 * (h % 4294967296)) / 2 ^ s) % 4294967296 : Nat) : Int) = ((x + 4294967296 * (h % 4294967296) : Nat) : Int) / 2 ^ s % 4294967296 := by rw [Int.natCast_emod, Int.natCast_ediv, Int.natCast_pow]; rfl
      refine ⟨⟨(k : Int) - 1, x + 4294967296 * (h % 4294967296), R.set k (((x + 4294967296 * (h % 4294967296)) / 2 ^ s) % 4294967296), by omega, by omega, rfl, rfl, by omega, ?_, limbs_set hL _ (Nat.mod_lt _ (by omega)), by rw [Hid, List.length_set]; exact hlen.out, ?_, ?_, hbel.setCell (by simp) _⟩, by show ((k : Int) - 1 + 1).toNat < ((k : Int) + 1).toNat; omega⟩
      · rw [← e2]; exact hR.set _ _
      · rw [Hid, show ((k : Int) - 1 + 1).toNat = k by omega, ← hx.out]; omega
      · rw [Hid, show ((k : Int) - 1 + 1).toNat = k by omega]
        have hm1 := hm.out
        have hv1 := hv.out
        rw [show ((k : Int) + 1).toNat = k + 1 by omega] at hm1 hv1
        have hp : (2 : Nat) ^ 32 = 2 ^ s * 2 ^ (32 - s) := by rw [← Nat.pow_add]; congr 1; omega
        have hmod := val_mod (limbs_drop ha.lt (k + 1))
        rw [getD_drop, Nat.add_zero] at hmod
        rw [val_set_drop (by rw [hlen.out]; omega), val_drop_cons (xs := xs) (k := k) (by rw [ha.len]; omega), hv1, ← hx.out]
        rw [shift_step x (val (xs.drop (k + 1))) (h % 4294967296) (2 ^ s) (2 ^ (32 - s)) (by rw [← hp]) (Nat.two_pow_pos s) hxl (by rw [hm1, hmod])]
    · obtain rfl : k = -1 := by omega
      go_wp2
      go_ret
      have hv1 := hv.out
      exact ⟨R, ⟨_, _, _, rfl, hR.len_lim hL n hlen.out (by omega), hbel⟩, hv1, hlen.out⟩
end Go.Proofs.YtnlmdjbakcjhbaaDoor
namespace Go.Proofs.YtnlmdjbakcjhbaaDoor
open Go.RowKit
set_option maxHeartbeats 400000 in
theorem words_yes (A A' : Option Addr) (n c m d B B' : Nat) (xs ys : List Nat) (w : World) (ha : Lim w B A n c xs) (hb : Lim w B' A' m d ys) (h1 : n ≤ 2) (h2 : m ≤ 2) :
    Calls Tryd.prog 55 #[.slice A n c, .slice A' m d] w fun e w' => e = .returned (.tuple #[.int .u64 ((val xs : Nat) : Int), .int .u64 ((val ys : Nat) : Int), .bool true]) ∧ Drawn w w' := by
  have H1 := word_any A n c B xs w ha
  have H2 := fun W hd => word_any A' m d B' ys W (hb.drawn (w := w) hd)
  rw [if_pos h1, decide_eq_true h1] at H1
  simp only [if_pos h2, decide_eq_true h2] at H2
  have H1' := Lib.hid H1
  have H2' := Lib.hid H2
  generalize val xs = x at *
  generalize val ys = y at *
  clear H1 H2
  go_enter Tryd.func55, Tryd.ntmps55
  go_wp2_with fail
  refine H1'.out.mono ?_
  rintro e w1 ⟨rfl, hd1⟩
  go_wp2_with fail
  refine (H2'.out _ hd1).mono ?_
  rintro e w2 ⟨rfl, hd2⟩
  go_wp2
  go_ret3
  exact ⟨rfl, hd1.trans hd2⟩
set_option maxHeartbeats 400000 in
theorem words_no (A A' : Option Addr) (n c m d B B' : Nat) (xs ys : List Nat) (w : World) (ha : Lim w B A n c xs) (hb : Lim w B' A' m d ys) (h : ¬ (n ≤ 2 ∧ m ≤ 2)) :
    Calls Tryd.prog 55 #[.slice A n c, .slice A' m d] w fun e w' => (∃ x y : Int, e = .returned (.tuple #[.int .u64 x, .int .u64 y, .bool false])) ∧ Drawn w w' := by
  have H1 := word_any A n c B xs w ha
  have H2 := fun W hd => word_any A' m d B' ys W (hb.drawn (w := w) hd)
  generalize ((if n ≤ 2 then val xs else 0 : Nat) : Int) = x at H1
  generalize ((if m ≤ 2 then val ys else 0 : Nat) : Int) = y at H2
  by_cases h1 : n ≤ 2
  · have h2 : ¬ m ≤ 2 := fun h2 => h ⟨h1, h2⟩
    rw [decide_eq_true h1] at H1
    simp only [decide_eq_false h2] at H2
    have H1' := Lib.hid H1
    have H2' := Lib.hid H2
    clear H1 H2 h
    go_enter Tryd.func55, Tryd.ntmps55
    go_wp2_with fail
    refine H1'.out.mono ?_
    rintro e w1 ⟨rfl, hd1⟩
    go_wp2_with fail
    refine (H2'.out _ hd1).mono ?_
    rintro e w2 ⟨rfl, hd2⟩
    go_wp2
    go_ret3
    exact ⟨⟨_, _, rfl⟩, hd1.trans hd2⟩
  · rw [decide_eq_false h1] at H1
    generalize decide (m ≤ 2) = b at H2
    have H1' := Lib.hid H1
    have H2' := Lib.hid H2
    clear H1 H2 h
    go_enter Tryd.func55, Tryd.ntmps55
    go_wp2_with fail
    refine H1'.out.mono ?_
    rintro e w1 ⟨rfl, hd1⟩
    go_wp2_with fail
    refine (H2'.out _ hd1).mono ?_
    rintro e w2 ⟨rfl, hd2⟩
    go_wp2
    go_ret3
    exact ⟨⟨_, _, rfl⟩, hd1.trans hd2⟩
set_option maxHeartbeats 400000 in
theorem gcdWords_any (a b : Nat) (w : World) (ha : a < 18446744073709551616) (hb : b < 18446744073709551616) :
    Calls Tryd.prog 58 #[.int .u64 (a : Int), .int .u64 (b : Int)] w fun e w' => e = .returned (.int .u64 ((Nat.gcd a b : Nat) : Int)) ∧ Drawn w w' := by
  go_enter Tryd.func58, Tryd.ntmps58
  go_wp2
  go_loopw [0, 1] (fun s t wr => ∃ x y : Nat, s = .int .u64 x ∧ t = .int .u64 y ∧ x < 18446744073709551616 ∧ y < 18446744073709551616 ∧ Hid (Nat.gcd x y = Nat.gcd a b) ∧ Drawn w wr) (fun _ t _ => (intOf t).toNat)
  case atStart => exact ⟨a, b, rfl, rfl, ha, hb, rfl, Drawn.refl w⟩
  case round =>
    obtain ⟨x, y, rfl, rfl, hx, hy, hg, hd⟩ := hrel
    rcases Nat.eq_zero_or_pos y with h0 | h0
    · subst h0
      go_wp2
      go_ret
      exact ⟨retI (by rw [← hg.out, Nat.gcd_zero_right]), hd⟩
    · have hb1 : ((y : Int) != 0) = true := by simp; omega
      have hb2 : ((y : Int) == 0) = false := by simp; omega
      go_wp2
      go_quiet (fail)
      go_wp2
      have hm := Nat.mod_lt x h0
      have e1 : (((x % y : Nat)) : Int) = (x : Int) % y := Int.natCast_emod x y
      refine ⟨⟨y, x % y, rfl, by rw [e1], hy, by omega, ?_, hd.drewN _⟩, ?_⟩
      · rw [Hid, ← hg.out, Nat.gcd_comm x y, Nat.gcd_rec y x, Nat.gcd_comm]
      · rw [← e1]; simp [intOf]; omega
end Go.Proofs.YtnlmdjbakcjhbaaDoor
namespace Go.Proofs.YtnlmdjbakcjhbaaDoor
open Go.RowKit
/-- All bytes are decimal digits. -/
def allDig (s : ByteArray) : Prop := ∀ j (h : j < s.size), 48 ≤ s[j].toNat ∧ s[j].toNat ≤ 57
/-- What the program calls a number: digits without a superfluous zero before them. -/
def numOk (s : ByteArray) : Prop := allDig s ∧ (s.toList = [48] ∨ ∃ h : 0 < s.size, s[0].toNat ≠ 48)
/-- A bool comes back that says whether p, and nothing turns. -/
def RetB (p : Prop) (w : World) (e : Ending) (w' : World) : Prop := ∃ b : Bool, e = .returned (.bool b) ∧ (b = true ↔ p) ∧ w = w'
theorem toL_len (s : ByteArray) : s.toList.length = s.size := by rw [ByteArray.toList_eq]; rfl
theorem toL_empty {s : ByteArray} (h : s.size = 0) : s.toList.isEmpty = true := by
  have := toL_len s; rw [h] at this; simp [List.eq_nil_of_length_eq_zero this]
theorem toL_some {s : ByteArray} (h : s.size ≠ 0) : s.toList.isEmpty = false := by
  have h1 := toL_len s
  cases h2 : s.toList with
  | nil => rw [h2] at h1; exact absurd h1.symm h
  | cons a l => rfl
set_option maxHeartbeats 1000000 in
theorem isNum_any (s : ByteArray) (w : World) (hs : s.size ≤ 2000) :
    Calls Tryd.prog 69 #[.string s] w fun e w' => RetB (numOk s) w e w' := by
  go_enter Tryd.func69, Tryd.ntmps69
  go_wp2
  go_loop [6] (fun i => ∃ k : Nat, k ≤ s.size ∧ i = .int .i64 k ∧ Hid (∀ j (h : j < s.size), j < k → 48 ≤ s[j].toNat ∧ s[j].toNat ≤ 57)) (fun i => s.size - (intOf i).toNat)
  case atStart => exact ⟨0, by omega, rfl, fun j h1 h2 => absurd h2 (by omega)⟩
  case round =>
    obtain ⟨k, hk, rfl, hI⟩ := hrel
    by_cases hlt : k < s.size
    · by_cases h1 : s[k].toNat < 48
      · go_wp2
        go_ret
        exact ⟨_, rfl, ⟨fun h => absurd h (by simp), fun h => absurd (h.1 k hlt).1 (by omega)⟩, rfl⟩
      · by_cases h2 : 57 < s[k].toNat
        · go_wp2
          go_ret
          exact ⟨_, rfl, ⟨fun h => absurd h (by simp), fun h => absurd (h.1 k hlt).2 (by omega)⟩, rfl⟩
        · go_wp2
          refine ⟨⟨k + 1, by omega, rfl, fun j ha hb => ?_⟩, ?_⟩
          · rcases Nat.lt_succ_iff_lt_or_eq.1 hb with hc | rfl
            · exact hI.out j ha hc
            · omega
          · show s.size - (((k : Int) + 1)).toNat < s.size - ((k : Int)).toNat
            omega
    · obtain rfl : k = s.size := by omega
      have HD : Hid (allDig s) := fun j hj => hI.out j hj hj
      clear hI
      by_cases h0 : s.size = 0
      · have q1 := toL_empty h0
        have q2 : (s.toList == [48]) = false := by
          have := toL_len s; rw [h0] at this; rw [List.eq_nil_of_length_eq_zero this]; rfl
        have q3 : Hid (¬ s.toList = [48]) := by intro h; rw [h] at q2; exact absurd q2 (by decide)
        go_wp2
        go_ret
        exact ⟨_, rfl, ⟨fun h => absurd h (by simp), fun h => by rcases h.2 with h | ⟨h, _⟩; exact absurd h q3.out; omega⟩, rfl⟩
      · have q1 := toL_some h0
        have h0' : 0 < s.size := by omega
        by_cases h48 : s.toList = [48]
        · have q2 : (s.toList == [48]) = true := by rw [h48]; rfl
          have q3 := Lib.hid h48
          clear h48
          go_wp2
          go_ret
          exact ⟨_, rfl, ⟨fun _ => ⟨HD.out, Or.inl q3.out⟩, fun _ => rfl⟩, rfl⟩
        · have q2 : (s.toList == [48]) = false := by simpa using h48
          have q3 := Lib.hid h48
          clear h48
          by_cases hz : s[0].toNat = 48
          · have q4 : (((s[0].toNat : Nat) : Int) != 48) = false := by rw [hz]; rfl
            have q5 := Lib.hid hz
            clear hz
            go_wp2
            go_ret
            exact ⟨_, rfl, ⟨fun h => absurd h (by simp), fun h => by rcases h.2 with h | ⟨h, h'⟩; exact absurd h q3.out; exact absurd q5.out h'⟩, rfl⟩
          · have q4 : (((s[0].toNat : Nat) : Int) != 48) = true := by simp; omega
            have q5 := Lib.hid hz
            clear hz
            go_wp2
            go_ret
            exact ⟨_, rfl, ⟨fun _ => ⟨HD.out, Or.inr ⟨h0', q5.out⟩⟩, fun _ => rfl⟩, rfl⟩
end Go.Proofs.YtnlmdjbakcjhbaaDoor
namespace Go.Proofs.YtnlmdjbakcjhbaaDoor
open Go.RowKit
/-- The number that a row of decimal digits stands for. -/
def dec (l : List UInt8) : Nat := l.foldl (fun n c => 10 * n + (c.toNat - 48)) 0
theorem dec_snoc (l : List UInt8) (c : UInt8) : dec (l ++ [c]) = 10 * dec l + (c.toNat - 48) := by simp [dec, List.foldl_append]
theorem toL_get (s : ByteArray) (k : Nat) (h : k < s.size) : s.toList[k]? = some s[k] := by
  rw [ByteArray.toList_eq, Array.getElem?_toList]
  exact Array.getElem?_eq_getElem h
theorem take_snoc (s : ByteArray) (k : Nat) (h : k < s.size) : s.toList.take (k + 1) = s.toList.take k ++ [s[k]] := by
  rw [List.take_add_one, toL_get s k h]; rfl
theorem dec_take (s : ByteArray) (k : Nat) (h : k < s.size) : dec (s.toList.take (k + 1)) = 10 * dec (s.toList.take k) + (s[k].toNat - 48) := by
  rw [take_snoc s k h, dec_snoc]
theorem dec_lt (s : ByteArray) (hd : allDig s) : ∀ k, k ≤ s.size → dec (s.toList.take k) < 10 ^ k
  | 0, _ => by simp [dec]
  | k + 1, h => by
    rw [dec_take s k h]
    have := dec_lt s hd k (by omega)
    have h2 := hd k h
    rw [Nat.pow_succ]
    omega
set_option maxHeartbeats 1000000 in
theorem groupValue_any (s : ByteArray) (w : World) (hs : s.size ≤ 9) (hd : allDig s) :
    Calls Tryd.prog 71 #[.string s] w fun e w' => e = .returned (.int .u32 ((dec s.toList : Nat) : Int)) ∧ w = w' := by
  have HL : Hid (∀ k, k ≤ s.size → dec (s.toList.take k) < 10 ^ k) := dec_lt s hd
  have HD := Lib.hid hd
  clear hd
  go_enter Tryd.func71, Tryd.ntmps71
  go_wp2
  go_loop [3, 7] (fun v i => ∃ k m : Nat, k ≤ s.size ∧ i = .int .i64 k ∧ v = .int .u32 m ∧ Hid (m = dec (s.toList.take k))) (fun _ i => s.size - (intOf i).toNat)
  case atStart => exact ⟨0, 0, by omega, rfl, rfl, by simp [Hid, dec]⟩
  case round =>
    obtain ⟨k, m, hk, rfl, rfl, hm⟩ := hrel
    by_cases hlt : k < s.size
    · have hdk := HD.out k hlt
      have hml : m < 100000000 := by
        have h1 := HL.out k hk
        rw [← hm.out] at h1
        have h2 : 10 ^ k ≤ 10 ^ 8 := Nat.pow_le_pow_right (by omega) (by omega)
        omega
      go_wp2
      refine ⟨⟨k + 1, 10 * m + (s[k].toNat - 48), by omega, rfl, by rw [show ((10 * m + (s[k].toNat - 48) : Nat) : Int) = 10 * (m : Int) + ((s[k].toNat : Int) - 48) by omega], ?_⟩, ?_⟩
      · rw [Hid, dec_take s k hlt, hm.out]
      · show s.size - (((k : Int) + 1)).toNat < s.size - ((k : Int)).toNat
        omega
    · obtain rfl : k = s.size := by omega
      go_wp2
      go_ret
      refine ⟨?_, rfl⟩
      have := hm.out
      rw [List.take_of_length_le (by rw [toL_len]; exact Nat.le_refl _)] at this
      rw [this]
      rfl
theorem Own.at_ {w : World} {base : Nat} {A : Option Addr} {n c : Nat} {xs : List Nat} (h : Own w base (.slice A n c) n xs) {k : Nat} (hk : k < n) :
    ∃ g, A = some ⟨g, 0, none⟩ ∧ base ≤ g ∧ g < w.heap.size ∧ n ≤ c ∧ w.cell? ⟨g, k, none⟩ = some (.int .u32 ((xs.getD k 0 : Nat) : Int)) ∧ w.frozen? ⟨g, k, none⟩ = false ∧
      ∀ x : Nat, Own (w.setCell ⟨g, k, none⟩ (.int .u32 (x : Int))) base (.slice A n c) n (xs.set k x) := by
  have hlen := h.len
  rcases h.2 with ⟨e, h0⟩ | ⟨g, cap, cur, e, hb, hg, hn, hm, hs, ht⟩
  · omega
  · cases e
    refine ⟨g, rfl, hb, (Array.getElem?_eq_some_iff.1 hg).1, hn, ?_, by simp [World.frozen?, hg], fun x => ⟨by rw [ints_len, List.length_set]; omega, .inr ⟨g, c, cur.set! k (.int .u32 (x : Int)), rfl, hb, ?_, hn, hm, by simpa using hs, ?_⟩⟩⟩
    · rw [cell_of_row w g k cur _ _ hg, ← ints_get xs k (by omega), ← ht, Nat.mul_one, List.getElem?_take, if_pos hk]
      simp
    · simp [World.setCell, Array.getElem?_modify, hg]
    · rw [Nat.mul_one] at ht ⊢
      rw [Array.set!_eq_setIfInBounds, Array.toList_setIfInBounds, List.take_set, ht]
      simp [ints, List.map_set]
theorem Own.block_ge {w : World} {base : Nat} {v : Value} {n : Nat} {xs : List Nat} (h : Own w base v n xs) {j : Nat} (hj : v.ownBlock = some j) : base ≤ j := by
  rcases h.2 with ⟨rfl, _⟩ | ⟨g, cap, cur, rfl, hb, _⟩
  · simp [Value.ownBlock] at hj
  · simp [Value.ownBlock] at hj; omega
set_option maxHeartbeats 1000000 in
theorem appendGroup_any (base : Nat) (A : Option Addr) (n c grp : Nat) (xs : List Nat) (w : World) (hO : Own w base (.slice A n c) n xs) (hL : Limbs xs) (hn : n ≤ 100000) (hg : grp < 4294967296) (hb : base ≤ w.heap.size) :
    Calls Tryd.prog 70 #[.slice A n c, .int .u32 (grp : Int)] w fun e w' => ∃ A' m c' ys, e = .returned (.slice A' m c') ∧ Own w' base (.slice A' m c') m ys ∧ Limbs ys ∧ val ys = val xs * 1000000000 + grp ∧ m ≤ n + 1 ∧ Below base w w' := by
  have HX := Lib.hid hO.len
  go_enter Tryd.func70, Tryd.ntmps70
  go_wp2
  go_loopw [5, 11] (fun cr i wr => ∃ (k q : Nat) (Y : List Nat), k ≤ n ∧ i = .int .i64 k ∧ cr = .int .u64 q ∧ q < 4294967296 ∧ Own wr base (.slice A n c) n Y ∧ Limbs Y ∧ Hid (Y.drop k = xs.drop k) ∧ Hid (val (Y.take k) + q * 4294967296 ^ k = val (xs.take k) * 1000000000 + grp) ∧ Below base w wr) (fun _ i _ => n - (intOf i).toNat)
  case atStart => exact ⟨0, grp, xs, by omega, rfl, rfl, hg, hO, hL, rfl, by simp [Hid, val], Below.refl _ _⟩
  case round =>
    obtain ⟨k, q, Y, hk, rfl, rfl, hq, hY, hLY, hd, hv, hbel⟩ := hrel
    have hYl := Lib.hid hY.len
    by_cases hkn : k < n
    · obtain ⟨g, rfl, hg0, hg1, hnc, hc, hf, hset⟩ := hY.at_ hkn
      obtain ⟨x, hx⟩ : ∃ x, x = Y.getD k 0 := ⟨_, rfl⟩
      have hxl : x < 4294967296 := by
        rw [hx, List.getD_eq_getElem?_getD, List.getElem?_eq_getElem (by rw [hYl.out]; omega)]
        exact hLY _ (List.getElem_mem _)
      rw [← hx] at hc
      have HXX := Lib.hid hx
      have HS := Lib.hid hset
      clear hx hset
      go_wp2
      have e1 : (((q + x * 1000000000) % 4294967296 : Nat) : Int) = ((q : Int) + x * 1000000000) % 4294967296 := by omega
      have e2 : (((q + x * 1000000000) / 4294967296 : Nat) : Int) = ((q : Int) + x * 1000000000) / 4294967296 := by omega
      rw [← e1, ← e2]
      refine ⟨⟨k + 1, (q + x * 1000000000) / 4294967296, Y.set k ((q + x * 1000000000) % 4294967296), by omega, rfl, rfl, by omega, HS.out _, limbs_set hLY _ (by omega), ?_, ?_, hbel.setCell hg0 _⟩, ?_⟩
      · have := hd.out
        rw [Hid, List.drop_set_of_lt (by omega)]
        rw [← List.drop_drop, this, List.drop_drop]
      · have hxx : x = xs.getD k 0 := by
          have h1 := congrArg (fun l => l.getD 0 0) hd.out
          simp only [getD_drop] at h1
          rw [HXX.out]; exact h1
        have h3 := hv.out
        have h4 := Nat.div_add_mod (q + x * 1000000000) 4294967296
        generalize (q + x * 1000000000) / 4294967296 = u at *
        generalize (q + x * 1000000000) % 4294967296 = v at *
        rw [Hid, val_set_take Y k v (by rw [hYl.out]; omega), val_take_succ xs, ← hxx, Nat.pow_succ, Nat.add_mul, ← Nat.mul_assoc u, Nat.mul_right_comm u, Nat.mul_comm (4294967296 ^ k) v, Nat.mul_comm (4294967296 ^ k) x, Nat.mul_right_comm x]
        rw [Nat.mul_comm u] at *
        have h5 : (4294967296 * u + v) * 4294967296 ^ k = (q + x * 1000000000) * 4294967296 ^ k := by rw [h4]
        rw [Nat.add_mul, Nat.add_mul] at h5
        omega
      · show n - ((k : Int) + 1).toNat < n - ((k : Int)).toNat
        omega
    · obtain rfl : k = n := by omega
      have hxs : Hid (val Y + q * 4294967296 ^ k = val xs * 1000000000 + grp) := by
        have := hv.out
        rwa [List.take_of_length_le (by rw [hYl.out]; exact Nat.le_refl _), List.take_of_length_le (by rw [HX.out]; exact Nat.le_refl _)] at this
      rcases Nat.eq_zero_or_pos q with rfl | hq0
      · go_wp2
        go_ret
        refine ⟨A, k, c, Y, rfl, hY, hLY, ?_, by omega, hbel⟩
        have := hxs.out
        omega
      · have hB := hbel.size
        have hB2 := Nat.le_trans hb hB
        have hY2 : Own (wr.alloc (.cells #[.int .u32 (q : Int)] 67)) base (.slice A k c) k Y := hY.keep ((Below.refl _ _).alloc (Nat.le_refl _) _)
        have hR : Lim (wr.alloc (.cells #[.int .u32 (q : Int)] 67)) (wr.heap.size + 1) (some ⟨wr.heap.size, 0, none⟩) 1 1 [q] := by
          have := (row_new wr [q] _ rfl).len_lim (by intro z hz; simp at hz; omega) 1 rfl (by omega)
          rwa [World.size_alloc] at this
        go_wp2_with (at_builtin; refine wpList_append_lim _ rfl (.tmp 32) (.tmp 35) rfl base (.slice A k c) k Y rfl ?h1 ?h2 (wr.heap.size + 1) (some ⟨wr.heap.size, 0, none⟩) 1 1 [q] rfl ?h3 ?h4 ?h5 ?h6)
        case h1 => exact hY2
        case h2 => exact hLY
        case h3 => exact hR
        case h4 => omega
        case h5 => rw [World.size_alloc]; omega
        case h6 =>
          intro A' c' w1 hl ho hg2
          have B1 : Below base w w1 := (hbel.alloc hB2 _).grown hg2 (by rw [World.size_alloc]; omega) (fun j hj => hY.block_ge hj)
          go_wp2
          go_ret
          refine ⟨A', k + 1, c', Y ++ [q], rfl, ho, ?_, ?_, Nat.le_refl _, B1⟩
          · intro z hz
            rcases List.mem_append.1 hz with e | e
            · exact hLY z e
            · simp at e; omega
          · have := hxs.out
            rw [val_append, hYl.out, Nat.mul_comm]
            simpa [val] using this
end Go.Proofs.YtnlmdjbakcjhbaaDoor
namespace Go.Proofs.YtnlmdjbakcjhbaaDoor
open Go.RowKit
set_option maxHeartbeats 400000 in
theorem pow2_any (n : Nat) (w : World) (hn : n ≤ 32000000) :
    Calls Tryd.prog 89 #[.int .i64 (n : Int)] w fun e w' => ∃ zs, RetSl w zs e w' ∧ val zs = 2 ^ n ∧ zs.length = n / 32 + 1 := by
  obtain ⟨q, hq⟩ : ∃ q, q = n / 32 := ⟨_, rfl⟩
  obtain ⟨r, hr⟩ : ∃ r, r = n % 32 := ⟨_, rfl⟩
  have hrl : r < 32 := by omega
  have hql : q ≤ 1000000 := by omega
  have e1 : (n : Int) / 32 = (q : Int) := by omega
  have e2 : (n : Int) % 32 = (r : Int) := by omega
  have HN : Hid (n = 32 * q + r) := by rw [Hid]; omega
  clear hq hr
  have hmk : ∀ W : World, (Instr.makeSlice 22 (.int .i64 ((q : Int) + 1)) (.int .i64 ((q : Int) + 1))).run Tryd.prog W =
    .ok (.slice (some ⟨W.heap.size, 0, none⟩) (q + 1) (q + 1)) (W.alloc (.cells (madeCells #[.int .u32 0] (q + 1)) 67)) := fun W => make_u32 (q + 1) (by omega) W
  have hR := Row.made w (q + 1)
  have hc := hR.cell (k := q) (by simp)
  have hf := hR.frozen q
  go_enter Tryd.func89, Tryd.ntmps89
  go_wp2
  go_ret
  have hxl : (2 : Nat) ^ r < 4294967296 := by
    have h1 : (2 : Nat) ^ r < 2 ^ 32 := Nat.pow_lt_pow_right (by omega) hrl
    exact Nat.lt_of_lt_of_le h1 (by decide)
  have hx : (2 : Int) ^ r % 4294967296 = ((2 ^ r : Nat) : Int) := by
    have h2 : ((2 ^ r : Nat) : Int) = (2 : Int) ^ r := Int.natCast_pow 2 r
    rw [← h2]
    exact Int.emod_eq_of_lt (Int.natCast_nonneg _) (Int.ofNat_lt.2 hxl)
  rw [hx]
  have hR2 : Row (w.alloc (.cells ((madeCells #[.int .u32 0] (q + 1)).setIfInBounds q (.int .u32 ((2 ^ r : Nat) : Int))) 67)) w.heap.size ((List.replicate (q + 1) 0).set q (2 ^ r)) := by
    apply row_new
    rw [← Array.toList_inj, Array.toList_setIfInBounds, toList_madeCells_one]
    simp [ints, List.map_set]
  have hlen : ((List.replicate (q + 1) 0).set q (2 ^ r)).length = q + 1 := by simp
  refine ⟨_, ⟨_, _, _, rfl, hR2.len_lim (limbs_set (limbs_zeros _) _ hxl) (q + 1) hlen (by omega), (Below.refl _ _).alloc (Nat.le_refl _) _⟩, ?_, ?_⟩
  · have h1 := val_set (List.replicate (q + 1) 0) q (2 ^ r) (by simp)
    rw [val_zeros] at h1
    have h2 : (List.replicate (q + 1) 0).getD q 0 = 0 := by
      rw [List.getD_eq_getElem?_getD, List.getElem?_replicate]
      split <;> rfl
    rw [h2] at h1
    have h3 : (4294967296 : Nat) ^ q = 2 ^ (32 * q) := by rw [Nat.pow_mul]
    rw [HN.out, Nat.pow_add, ← h3]
    omega
  · rw [hlen, HN.out]; omega
end Go.Proofs.YtnlmdjbakcjhbaaDoor
namespace Go.Proofs.YtnlmdjbakcjhbaaDoor
open Go.RowKit
theorem take_none {xs : List Nat} {k : Nat} (h : xs.length ≤ k) : xs.getD k 0 = 0 := by
  rw [List.getD_eq_getElem?_getD, List.getElem?_eq_none h]; rfl
theorem limbs_snoc {R : List Nat} (h : Limbs R) {v : Nat} (hv : v < 4294967296) : Limbs (R ++ [v]) := by
  intro x hx
  rcases List.mem_append.1 hx with e | e
  · exact h x e
  · simp at e; omega
theorem val_snoc (R : List Nat) (v k : Nat) (h : R.length = k) : val (R ++ [v]) = val R + 4294967296 ^ k * v := by
  rw [val_append, h]; simp [val]
/-- A new block of one limb. -/
theorem one_limb (wr : World) (q : Nat) (hq : q < 4294967296) (u : Int) (hu : u = (q : Int)) : Lim (wr.alloc (.cells #[.int .u32 u] 67)) (wr.heap.size + 1) (some ⟨wr.heap.size, 0, none⟩) 1 1 [q] := by
  subst hu
  have := (row_new wr [q] _ rfl).len_lim (by intro z hz; simp at hz; omega) 1 rfl (by omega)
  rwa [World.size_alloc] at this
/-- What holds of the sum at a round's head. -/
structure PlusInv (w : World) (N : Nat) (xs ys : List Nat) (wr : World) (k q : Nat) (R : List Nat) (A0 : Option Addr) (c0 : Nat) : Prop where
  own : Own wr w.heap.size (.slice A0 k c0) k R
  lim : Limbs R
  eqn : val (xs.take k) + val (ys.take k) = val R + q * 4294967296 ^ k
  end_ : k = N + 1 → q = 0
  bel : Below w.heap.size w wr
theorem PlusInv.step {w : World} {N : Nat} {xs ys : List Nat} {wr : World} {k q : Nat} {R : List Nat} {A0 : Option Addr} {c0 : Nat} (h : PlusInv w N xs ys wr k q R A0 c0) {u : Int} {x y t : Nat} (hx : x = xs.getD k 0) (hy : y = ys.getD k 0) (ht : t = q + x + y) (hN : k = N → t < 4294967296)
    {w1 : World} {A' : Option Addr} {c' : Nat} (ho : Own w1 w.heap.size (.slice A' (k + 1) c') (k + 1) (R ++ [t % 4294967296])) (hg : (wr.alloc (.cells #[.int .u32 u] 67)).grownBy w1 (Value.slice A0 k c0).ownBlock) :
    PlusInv w N xs ys w1 (k + 1) (t / 4294967296) (R ++ [t % 4294967296]) A' c' := by
  refine ⟨ho, limbs_snoc h.lim (by omega), ?_, fun e => ?_, (h.bel.alloc h.bel.size _).grown hg (by have := h.bel.size; simp; omega) (fun j hj => h.own.block_ge hj)⟩
  · rw [val_take_succ xs, val_take_succ ys, ← hx, ← hy, val_snoc R _ k h.own.len, Nat.pow_succ]
    exact sum_step h.eqn (by omega)
  · have := hN (by omega)
    omega
set_option maxHeartbeats 2000000 in
theorem plus_any (A A' : Option Addr) (n c m d B B' N : Nat) (xs ys : List Nat) (w : World) (ha : Lim w B A n c xs) (hb : Lim w B' A' m d ys) (hB : B ≤ w.heap.size) (hB' : B' ≤ w.heap.size) (hn : n ≤ N) (hm : m ≤ N) (hN : N ≤ 100000) :
    Calls Tryd.prog 76 #[.slice A n c, .slice A' m d] w fun e w' => ∃ zs, RetSl w zs e w' ∧ val zs = val xs + val ys ∧ zs.length ≤ N + 1 := by
  have HLx := Lib.hid ha.len
  have HLy := Lib.hid hb.len
  have E0 := Own.empty w w.heap.size (Nat.le_refl _)
  go_enter Tryd.func76, Tryd.ntmps76
  go_wp2
  go_loopw [5, 6, 7] (fun o cr i wr => ∃ (k q : Nat) (R : List Nat) (A0 : Option Addr) (c0 : Nat), o = .slice A0 k c0 ∧ cr = .int .u64 q ∧ i = .int .i64 k ∧ q ≤ 1 ∧ k ≤ N + 1 ∧ PlusInv w N xs ys wr k q R A0 c0) (fun _ _ i _ => N + 1 - (intOf i).toNat)
  case atStart => exact ⟨0, 0, [], _, _, rfl, rfl, rfl, by omega, by omega, E0, (fun x hx => by simp at hx), by simp [val], fun h => by omega, (Below.refl _ _).alloc (Nat.le_refl _) _⟩
  case round =>
    obtain ⟨k, q, R, A0, c0, rfl, rfl, rfl, hq, hk, HI⟩ := hrel
    have hbs := HI.bel.size
    have hY2 : ∀ u : Int, Own (wr.alloc (.cells #[.int .u32 u] 67)) w.heap.size (.slice A0 k c0) k R := fun u => HI.own.keep ((Below.refl _ _).alloc (Nat.le_refl _) _)
    have HY := Lib.hid hY2
    clear hY2
    by_cases hkn : k < n
    · obtain ⟨ad, rfl, _, x, hx, hxl, hcx⟩ := (ha.below (HI.bel.mono hB)).at_ hkn
      by_cases hkm : k < m
      · obtain ⟨ad', rfl, _, y, hy, hyl, hcy⟩ := (hb.below (HI.bel.mono hB')).at_ hkm
        have HX : Hid (x = xs.getD k 0 ∧ y = ys.getD k 0) := ⟨hx.out, hy.out⟩
        have e1 : (((q + x + y) % 4294967296 : Nat) : Int) = ((q : Int) + (x : Int) + (y : Int)) % 4294967296 := by omega
        have e2 : (((q + x + y) / 4294967296 : Nat) : Int) = ((q : Int) + (x : Int) + (y : Int)) / 4294967296 := by omega
        have E1 := Lib.hid e1
        have E2 := Lib.hid e2
        clear e1 e2
        go_wp2_with (at_builtin; refine wpList_append_lim _ rfl (.tmp 47) (.tmp 50) rfl w.heap.size (.slice A0 k c0) k R rfl ?h1 ?h2 (wr.heap.size + 1) (some ⟨wr.heap.size, 0, none⟩) 1 1 [(q + x + y) % 4294967296] rfl ?h3 ?h4 ?h5 ?h6)
        case h1 => exact HY.out _
        case h2 => exact HI.lim
        case h3 => exact one_limb wr _ (by omega) _ (by have := E1.out; omega)
        case h4 => omega
        case h5 => (first | (rw [World.size_alloc]; omega) | omega)
        case h6 =>
          intro A1 c1 w1 hl ho hg2
          have HJ := HI.step HX.out.1 HX.out.2 (t := q + x + y) rfl (by omega) ho hg2
          clear hl ho hg2
          go_wp2
          go_roundw
          case rel => exact ⟨k + 1, (q + x + y) / 4294967296, _, A1, c1, rfl, by have := E2.out; congr 1 <;> omega, rfl, by omega, by omega, HJ⟩
          case measure => simp [intOf]; omega
      · have HX : Hid (x = xs.getD k 0 ∧ 0 = ys.getD k 0) := ⟨hx.out, (take_none (by rw [HLy.out]; omega)).symm⟩
        have e1 : (((q + x + 0) % 4294967296 : Nat) : Int) = ((q : Int) + (x : Int)) % 4294967296 := by omega
        have e2 : (((q + x + 0) / 4294967296 : Nat) : Int) = ((q : Int) + (x : Int)) / 4294967296 := by omega
        have E1 := Lib.hid e1
        have E2 := Lib.hid e2
        clear e1 e2
        go_wp2_with (at_builtin; refine wpList_append_lim _ rfl (.tmp 47) (.tmp 50) rfl w.heap.size (.slice A0 k c0) k R rfl ?h1 ?h2 (wr.heap.size + 1) (some ⟨wr.heap.size, 0, none⟩) 1 1 [(q + x + 0) % 4294967296] rfl ?h3 ?h4 ?h5 ?h6)
        case h1 => exact HY.out _
        case h2 => exact HI.lim
        case h3 => exact one_limb wr _ (by omega) _ (by have := E1.out; omega)
        case h4 => omega
        case h5 => (first | (rw [World.size_alloc]; omega) | omega)
        case h6 =>
          intro A1 c1 w1 hl ho hg2
          have HJ := HI.step HX.out.1 HX.out.2 (t := q + x + 0) rfl (by omega) ho hg2
          clear hl ho hg2
          go_wp2
          go_roundw
          case rel => exact ⟨k + 1, (q + x + 0) / 4294967296, _, A1, c1, rfl, by have := E2.out; congr 1 <;> omega, rfl, by omega, by omega, HJ⟩
          case measure => simp [intOf]; omega
    · by_cases hkm : k < m
      · obtain ⟨ad', rfl, _, y, hy, hyl, hcy⟩ := (hb.below (HI.bel.mono hB')).at_ hkm
        have HX : Hid (0 = xs.getD k 0 ∧ y = ys.getD k 0) := ⟨(take_none (by rw [HLx.out]; omega)).symm, hy.out⟩
        have e1 : (((q + 0 + y) % 4294967296 : Nat) : Int) = ((q : Int) + (y : Int)) % 4294967296 := by omega
        have e2 : (((q + 0 + y) / 4294967296 : Nat) : Int) = ((q : Int) + (y : Int)) / 4294967296 := by omega
        have E1 := Lib.hid e1
        have E2 := Lib.hid e2
        clear e1 e2
        go_wp2_with (at_builtin; refine wpList_append_lim _ rfl (.tmp 47) (.tmp 50) rfl w.heap.size (.slice A0 k c0) k R rfl ?h1 ?h2 (wr.heap.size + 1) (some ⟨wr.heap.size, 0, none⟩) 1 1 [(q + 0 + y) % 4294967296] rfl ?h3 ?h4 ?h5 ?h6)
        case h1 => exact HY.out _
        case h2 => exact HI.lim
        case h3 => exact one_limb wr _ (by omega) _ (by have := E1.out; omega)
        case h4 => omega
        case h5 => (first | (rw [World.size_alloc]; omega) | omega)
        case h6 =>
          intro A1 c1 w1 hl ho hg2
          have HJ := HI.step HX.out.1 HX.out.2 (t := q + 0 + y) rfl (by omega) ho hg2
          clear hl ho hg2
          go_wp2
          go_roundw
          case rel => exact ⟨k + 1, (q + 0 + y) / 4294967296, _, A1, c1, rfl, by have := E2.out; congr 1 <;> omega, rfl, by omega, by omega, HJ⟩
          case measure => simp [intOf]; omega
      · rcases Nat.eq_zero_or_pos q with rfl | hq0
        · go_wp2
          go_ret
          obtain ⟨A1, c1, e, hl⟩ := HI.own.form HI.lim
          cases e
          refine ⟨R, ⟨_, _, _, rfl, hl, HI.bel⟩, ?_, by rw [HI.own.len]; exact hk⟩
          have := HI.eqn
          rw [List.take_of_length_le (by rw [HLx.out]; omega), List.take_of_length_le (by rw [HLy.out]; omega)] at this
          omega
        · obtain rfl : q = 1 := by omega
          have hkN : k ≤ N := by
            rcases Nat.lt_or_ge N k with h | h
            · have := HI.end_ (by omega); omega
            · exact h
          have HX : Hid (0 = xs.getD k 0 ∧ 0 = ys.getD k 0) := ⟨(take_none (by rw [HLx.out]; omega)).symm, (take_none (by rw [HLy.out]; omega)).symm⟩
          have e1 : (((1 + 0 + 0) % 4294967296 : Nat) : Int) = ((1 : Int)) % 4294967296 := by omega
          have e2 : (((1 + 0 + 0) / 4294967296 : Nat) : Int) = ((1 : Int)) / 4294967296 := by omega
          have E1 := Lib.hid e1
          have E2 := Lib.hid e2
          clear e1 e2
          go_wp2_with (at_builtin; refine wpList_append_lim _ rfl (.tmp 47) (.tmp 50) rfl w.heap.size (.slice A0 k c0) k R rfl ?h1 ?h2 (wr.heap.size + 1) (some ⟨wr.heap.size, 0, none⟩) 1 1 [(1 + 0 + 0) % 4294967296] rfl ?h3 ?h4 ?h5 ?h6)
          case h1 => exact HY.out _
          case h2 => exact HI.lim
          case h3 => exact one_limb wr _ (by omega) _ (by have := E1.out; omega)
          case h4 => omega
          case h5 => (first | (rw [World.size_alloc]; omega) | omega)
          case h6 =>
            intro A1 c1 w1 hl ho hg2
            have HJ := HI.step HX.out.1 HX.out.2 (t := 1 + 0 + 0) rfl (by omega) ho hg2
            clear hl ho hg2
            go_wp2
            go_roundw
            case rel => exact ⟨k + 1, (1 + 0 + 0) / 4294967296, _, A1, c1, rfl, by have := E2.out; congr 1 <;> omega, rfl, by omega, by omega, HJ⟩
            case measure => simp [intOf]; omega
end Go.Proofs.YtnlmdjbakcjhbaaDoor
namespace Go.Proofs.YtnlmdjbakcjhbaaDoor
open Go.RowKit
/-- What holds of the difference at a round's head. -/
structure MinusInv (w : World) (xs ys : List Nat) (wr : World) (k q : Nat) (R : List Nat) (A0 : Option Addr) (c0 : Nat) : Prop where
  own : Own wr w.heap.size (.slice A0 k c0) k R
  lim : Limbs R
  eqn : val (xs.take k) + q * 4294967296 ^ k = val R + val (ys.take k)
  bel : Below w.heap.size w wr
theorem MinusInv.step {w : World} {xs ys : List Nat} {wr : World} {k q : Nat} {R : List Nat} {A0 : Option Addr} {c0 : Nat} (h : MinusInv w xs ys wr k q R A0 c0) {u : Int} {x y r q' : Nat} (hx : x = xs.getD k 0) (hy : y = ys.getD k 0) (ht : x + q' * 4294967296 = r + y + q) (hr : r < 4294967296)
    {w1 : World} {A' : Option Addr} {c' : Nat} (ho : Own w1 w.heap.size (.slice A' (k + 1) c') (k + 1) (R ++ [r])) (hg : (wr.alloc (.cells #[.int .u32 u] 67)).grownBy w1 (Value.slice A0 k c0).ownBlock) :
    MinusInv w xs ys w1 (k + 1) q' (R ++ [r]) A' c' := by
  refine ⟨ho, limbs_snoc h.lim hr, ?_, (h.bel.alloc h.bel.size _).grown hg (by have := h.bel.size; simp; omega) (fun j hj => h.own.block_ge hj)⟩
  rw [val_take_succ xs, val_take_succ ys, ← hx, ← hy, val_snoc R _ k h.own.len, Nat.pow_succ]
  exact diff_step h.eqn ht
set_option maxHeartbeats 2000000 in
theorem minus_any (A A' : Option Addr) (n c m d B B' : Nat) (xs ys : List Nat) (w : World) (ha : Lim w B A n c xs) (hb : Lim w B' A' m d ys) (hB : B ≤ w.heap.size) (hB' : B' ≤ w.heap.size) (hn : n ≤ 100000) (hm : m ≤ n) (hv : val ys ≤ val xs) :
    Calls Tryd.prog 77 #[.slice A n c, .slice A' m d] w fun e w' => ∃ zs, RetSl w zs e w' ∧ val zs = val xs - val ys ∧ zs.length = n := by
  have HLx := Lib.hid ha.len
  have HLy := Lib.hid hb.len
  have HV := Lib.hid hv
  clear hv
  have E0 := Own.empty w w.heap.size (Nat.le_refl _)
  go_enter Tryd.func77, Tryd.ntmps77
  go_wp2
  go_loopw [5, 6, 7] (fun o cr i wr => ∃ (k q : Nat) (R : List Nat) (A0 : Option Addr) (c0 : Nat), o = .slice A0 k c0 ∧ cr = .int .i64 q ∧ i = .int .i64 k ∧ q ≤ 1 ∧ k ≤ n ∧ MinusInv w xs ys wr k q R A0 c0) (fun _ _ i _ => n - (intOf i).toNat)
  case atStart => exact ⟨0, 0, [], _, _, rfl, rfl, rfl, by omega, by omega, E0, (fun x hx => by simp at hx), by simp [val], (Below.refl _ _).alloc (Nat.le_refl _) _⟩
  case round =>
    obtain ⟨k, q, R, A0, c0, rfl, rfl, rfl, hq, hk, HI⟩ := hrel
    have hbs := HI.bel.size
    have hY2 : ∀ u : Int, Own (wr.alloc (.cells #[.int .u32 u] 67)) w.heap.size (.slice A0 k c0) k R := fun u => HI.own.keep ((Below.refl _ _).alloc (Nat.le_refl _) _)
    have HY := Lib.hid hY2
    clear hY2
    by_cases hkn : k < n
    · obtain ⟨ad, rfl, _, x, hx, hxl, hcx⟩ := (ha.below (HI.bel.mono hB)).at_ hkn
      by_cases hkm : k < m
      · obtain ⟨ad', rfl, _, y, hy, hyl, hcy⟩ := (hb.below (HI.bel.mono hB')).at_ hkm
        by_cases hng : (x : Int) - q - y < 0
        · have HX : Hid (x = xs.getD k 0 ∧ y = ys.getD k 0) := ⟨hx.out, hy.out⟩
          go_wp2_with (at_builtin; refine wpList_append_lim _ rfl (.tmp 38) (.tmp 41) rfl w.heap.size (.slice A0 k c0) k R rfl ?h1 ?h2 (wr.heap.size + 1) (some ⟨wr.heap.size, 0, none⟩) 1 1 [x + 4294967296 - q - y] rfl ?h3 ?h4 ?h5 ?h6)
          case h1 => exact HY.out _
          case h2 => exact HI.lim
          case h3 => exact one_limb wr _ (by omega) _ (by omega)
          case h4 => omega
          case h5 => (first | (rw [World.size_alloc]; omega) | omega)
          case h6 =>
            intro A1 c1 w1 hl ho hg2
            have HJ := HI.step HX.out.1 HX.out.2 (q' := 1) (by omega) (by omega) ho hg2
            clear hl ho hg2
            go_wp2
            go_roundw
            case rel => exact ⟨k + 1, 1, _, A1, c1, rfl, rfl, rfl, by omega, by omega, HJ⟩
            case measure => simp [intOf]; omega
        · have HX : Hid (x = xs.getD k 0 ∧ y = ys.getD k 0) := ⟨hx.out, hy.out⟩
          go_wp2_with (at_builtin; refine wpList_append_lim _ rfl (.tmp 38) (.tmp 41) rfl w.heap.size (.slice A0 k c0) k R rfl ?h1 ?h2 (wr.heap.size + 1) (some ⟨wr.heap.size, 0, none⟩) 1 1 [x - q - y] rfl ?h3 ?h4 ?h5 ?h6)
          case h1 => exact HY.out _
          case h2 => exact HI.lim
          case h3 => exact one_limb wr _ (by omega) _ (by omega)
          case h4 => omega
          case h5 => (first | (rw [World.size_alloc]; omega) | omega)
          case h6 =>
            intro A1 c1 w1 hl ho hg2
            have HJ := HI.step HX.out.1 HX.out.2 (q' := 0) (by omega) (by omega) ho hg2
            clear hl ho hg2
            go_wp2
            go_roundw
            case rel => exact ⟨k + 1, 0, _, A1, c1, rfl, rfl, rfl, by omega, by omega, HJ⟩
            case measure => simp [intOf]; omega
      · by_cases hng : (x : Int) - q < 0
        · have HX : Hid (x = xs.getD k 0 ∧ 0 = ys.getD k 0) := ⟨hx.out, (take_none (by rw [HLy.out]; omega)).symm⟩
          go_wp2_with (at_builtin; refine wpList_append_lim _ rfl (.tmp 38) (.tmp 41) rfl w.heap.size (.slice A0 k c0) k R rfl ?h1 ?h2 (wr.heap.size + 1) (some ⟨wr.heap.size, 0, none⟩) 1 1 [x + 4294967296 - q - 0] rfl ?h3 ?h4 ?h5 ?h6)
          case h1 => exact HY.out _
          case h2 => exact HI.lim
          case h3 => exact one_limb wr _ (by omega) _ (by omega)
          case h4 => omega
          case h5 => (first | (rw [World.size_alloc]; omega) | omega)
          case h6 =>
            intro A1 c1 w1 hl ho hg2
            have HJ := HI.step HX.out.1 HX.out.2 (q' := 1) (by omega) (by omega) ho hg2
            clear hl ho hg2
            go_wp2
            go_roundw
            case rel => exact ⟨k + 1, 1, _, A1, c1, rfl, rfl, rfl, by omega, by omega, HJ⟩
            case measure => simp [intOf]; omega
        · have HX : Hid (x = xs.getD k 0 ∧ 0 = ys.getD k 0) := ⟨hx.out, (take_none (by rw [HLy.out]; omega)).symm⟩
          go_wp2_with (at_builtin; refine wpList_append_lim _ rfl (.tmp 38) (.tmp 41) rfl w.heap.size (.slice A0 k c0) k R rfl ?h1 ?h2 (wr.heap.size + 1) (some ⟨wr.heap.size, 0, none⟩) 1 1 [x - q - 0] rfl ?h3 ?h4 ?h5 ?h6)
          case h1 => exact HY.out _
          case h2 => exact HI.lim
          case h3 => exact one_limb wr _ (by omega) _ (by omega)
          case h4 => omega
          case h5 => (first | (rw [World.size_alloc]; omega) | omega)
          case h6 =>
            intro A1 c1 w1 hl ho hg2
            have HJ := HI.step HX.out.1 HX.out.2 (q' := 0) (by omega) (by omega) ho hg2
            clear hl ho hg2
            go_wp2
            go_roundw
            case rel => exact ⟨k + 1, 0, _, A1, c1, rfl, rfl, rfl, by omega, by omega, HJ⟩
            case measure => simp [intOf]; omega
    · obtain rfl : k = n := by omega
      go_wp2
      go_ret
      obtain ⟨A1, c1, e, hl⟩ := HI.own.form HI.lim
      cases e
      refine ⟨R, ⟨_, _, _, rfl, hl, HI.bel⟩, ?_, HI.own.len⟩
      have h1 := HI.eqn
      rw [List.take_of_length_le (by rw [HLx.out]; omega), List.take_of_length_le (by rw [HLy.out]; omega)] at h1
      have h2 := val_lt HI.lim
      rw [HI.own.len] at h2
      have h3 := HV.out
      rcases Nat.eq_zero_or_pos q with rfl | hq0
      · omega
      · obtain rfl : q = 1 := by omega
        omega
end Go.Proofs.YtnlmdjbakcjhbaaDoor
namespace Go.Proofs.YtnlmdjbakcjhbaaDoor
open Go.RowKit
theorem made_val (neg : Bool) (A : Option Addr) (n c v : Nat) (z : Int) (zs : List Nat) (w : World) (ha : Lim w w.heap.size A n c zs) (hn : zs.length ≤ 1000000) (hv : val zs = v) (hz : zOf neg v = z) :
    Calls Tryd.prog 16 #[.slice A n c, .bool neg] w (RetInt w z) := by
  subst hv hz
  exact Made_any neg A n c w.heap.size zs w ha (Nat.le_refl _) (by rw [← ha.len]; exact hn)
set_option maxHeartbeats 1000000 in
theorem radd_same (neg : Bool) (A A' : Option Addr) (n c m d : Nat) (a b : Int) (w : World) (ha : IsInt w neg A n c a) (hb : IsInt w neg A' m d b) (hn : n ≤ 100000) (hm : m ≤ 100000) :
    Calls Tryd.prog 27 #[.agg #[.bool neg, .slice A n c], .agg #[.bool neg, .slice A' m d]] w (RetInt w (a + b)) := by
  have H1 := fun W (hW : Below w.heap.size w W) => plus_any A A' n c m d w.heap.size w.heap.size 100000 (digs a.natAbs) (digs b.natAbs) W (ha.lim.below hW) (hb.lim.below hW) hW.size hW.size hn hm (Nat.le_refl _)
  have e1 : zOf neg (a.natAbs + b.natAbs) = a + b := by
    have h1 := ha.sign
    have h2 := hb.sign
    unfold zOf
    cases neg <;> simp at h1 h2 ⊢ <;> omega
  have H2 := fun A n c zs (W : World) (ha : Lim W W.heap.size A n c zs) (hl : zs.length ≤ 100001) (hv : val zs = val (digs a.natAbs) + val (digs b.natAbs)) => made_val neg A n c (a.natAbs + b.natAbs) (a + b) zs W ha (by omega) (by rw [hv, val_digs, val_digs]) e1
  have H1' := Lib.hid H1
  have H2' := Lib.hid H2
  clear H1 H2 e1
  obtain ⟨HB, P0, P1, R0⟩ := frame21 w (.bool neg) (.slice A n c) (.bool neg) (.slice A' m d)
  have HS : Hid (∀ W, Below (w.heap.size + 1 + 1) (((w.alloc (.cells #[.bool neg, .slice A n c] 27)).alloc (.cells #[.bool neg, .slice A' m d] 27)).alloc (.cells #[.bool false, .slice none 0 0] 27)) W → W.cell? ⟨w.heap.size, 0, none⟩ = some (.bool neg) ∧ W.cell? ⟨w.heap.size, 1, none⟩ = some (.slice A n c) ∧ W.cell? ⟨w.heap.size + 1, 0, none⟩ = some (.bool neg) ∧ W.cell? ⟨w.heap.size + 1, 1, none⟩ = some (.slice A' m d)) :=
    fun W hW => ⟨(P0.below hW (by omega)).1, (P0.below hW (by omega)).2.1, (P1.below hW (by omega)).1, (P1.below hW (by omega)).2.1⟩
  go_enter Tryd.func27, Tryd.ntmps27
  go_wp2_with fail
  go_region_held3 (fun W => W.cell? ⟨w.heap.size, 0, none⟩ = some (.bool neg) ∧ W.cell? ⟨w.heap.size, 1, none⟩ = some (.slice A n c) ∧ W.cell? ⟨w.heap.size + 1, 0, none⟩ = some (.bool neg) ∧ W.cell? ⟨w.heap.size + 1, 1, none⟩ = some (.slice A' m d)) (exact HS.out _ (by first | exact Below.refl _ _ | exact (Below.refl _ _).drew | exact Below.drewN' (Below.refl _ _) _ | exact (Below.drewN' (Below.refl _ _) _).drew | exact D1.mono (by omega) | exact D2.mono (by omega) | exact ((D2.mono (by omega)).setCell (by simp) _).setCell (by simp) _))
    (first
      | (go_at_call 76; refine (H1'.out _ (by first | exact HB | exact HB.drew | exact Below.drewN' HB _ | exact (Below.drewN' HB _).drew)).mono ?_; rintro e w1 ⟨zs, ⟨A1, n1, c1, rfl, hl1, hb1⟩, hv1, hn1⟩; have D1 := Below.trans (by first | exact Below.refl _ _ | exact (Below.refl _ _).drew | exact Below.drewN' (Below.refl _ _) _ | exact (Below.drewN' (Below.refl _ _) _).drew : Below (w.heap.size + 1 + 1 + 1) (((w.alloc (.cells #[.bool neg, .slice A n c] 27)).alloc (.cells #[.bool neg, .slice A' m d] 27)).alloc (.cells #[.bool false, .slice none 0 0] 27)) _) (hb1.mono (by simp)); have HV1 := Lib.hid hv1; clear hv1)
      | (go_at_call 16; refine (H2'.out _ _ _ _ _ hl1 hn1 HV1.out).mono ?_; rintro e w2 ⟨neg2, A2, n2, c2, rfl, hi2, hb2⟩; have D2 := D1.trans (hb2.mono (by have := D1.size; simp at this; omega)); obtain ⟨k0, k1, f0, f1, _⟩ := R0.below D2 (by omega)))
  go_wp2
  exact bodyPost_ret (v := .agg #[.bool neg2, .slice A2 n2 c2]) (by simp [results, Tryd.results27, go_sem, k0, k1]) rfl
    (RetInt.stored hi2 (HB.trans (D1.mono (by omega))) (hb2.mono (by omega)) (by omega) k0 k1 rfl rfl)
set_option maxHeartbeats 1000000 in
theorem radd_lt (neg neg' : Bool) (A A' : Option Addr) (n c m d : Nat) (a b : Int) (w : World) (ha : IsInt w neg A n c a) (hb : IsInt w neg' A' m d b) (_hn : n ≤ 100000) (hm : m ≤ 100000) (hne : (neg == neg') = false) (hlt : a.natAbs < b.natAbs) :
    Calls Tryd.prog 27 #[.agg #[.bool neg, .slice A n c], .agg #[.bool neg', .slice A' m d]] w (RetInt w (a + b)) := by
  have H0 := fun W (hW : Below w.heap.size w W) => less_any A A' n c m d _ _ _ _ W (ha.lim.below hW) (hb.lim.below hW)
  rw [lessV_digs, decide_eq_true hlt] at H0
  have hlen : n ≤ m := by
    rw [← hb.lim.len, ← ha.lim.len]
    exact digs_len_mono (by omega)
  have H1 := fun W (hW : Below w.heap.size w W) => minus_any A' A m d n c w.heap.size w.heap.size (digs b.natAbs) (digs a.natAbs) W (hb.lim.below hW) (ha.lim.below hW) hW.size hW.size (by omega) hlen (by rw [val_digs, val_digs]; omega)
  have e1 : zOf neg' (b.natAbs - a.natAbs) = a + b := by
    have h1 := ha.sign
    have h2 := hb.sign
    unfold zOf
    cases neg <;> cases neg' <;> simp at h1 h2 hne ⊢ <;> omega
  have hlen2 : (digs b.natAbs).length ≤ 100000 := by rw [hb.lim.len]; omega
  have H2 := fun A2 n2 c2 zs (W : World) (ha : Lim W W.heap.size A2 n2 c2 zs) (hl : zs.length = m) (hv : val zs = val (digs b.natAbs) - val (digs a.natAbs)) => made_val neg' A2 n2 c2 (b.natAbs - a.natAbs) (a + b) zs W ha (by omega) (by rw [hv, val_digs, val_digs]) e1
  have H0' := Lib.hid H0
  have H1' := Lib.hid H1
  have H2' := Lib.hid H2
  clear H0 H1 H2 e1 hlt hlen hlen2
  obtain ⟨HB, P0, P1, R0⟩ := frame21 w (.bool neg) (.slice A n c) (.bool neg') (.slice A' m d)
  have HS : Hid (∀ W, Below (w.heap.size + 1 + 1) (((w.alloc (.cells #[.bool neg, .slice A n c] 27)).alloc (.cells #[.bool neg', .slice A' m d] 27)).alloc (.cells #[.bool false, .slice none 0 0] 27)) W → W.cell? ⟨w.heap.size, 0, none⟩ = some (.bool neg) ∧ W.cell? ⟨w.heap.size, 1, none⟩ = some (.slice A n c) ∧ W.cell? ⟨w.heap.size + 1, 0, none⟩ = some (.bool neg') ∧ W.cell? ⟨w.heap.size + 1, 1, none⟩ = some (.slice A' m d)) :=
    fun W hW => ⟨(P0.below hW (by omega)).1, (P0.below hW (by omega)).2.1, (P1.below hW (by omega)).1, (P1.below hW (by omega)).2.1⟩
  go_enter Tryd.func27, Tryd.ntmps27
  go_wp2_with fail
  refine (H0'.out _ HB).mono ?_
  rintro e wq ⟨rfl, hdq⟩
  obtain ⟨q, rfl⟩ := hdq
  go_wp2_with fail
  go_region_held3 (fun W => W.cell? ⟨w.heap.size, 0, none⟩ = some (.bool neg) ∧ W.cell? ⟨w.heap.size, 1, none⟩ = some (.slice A n c) ∧ W.cell? ⟨w.heap.size + 1, 0, none⟩ = some (.bool neg') ∧ W.cell? ⟨w.heap.size + 1, 1, none⟩ = some (.slice A' m d)) (exact HS.out _ (by first | exact Below.refl _ _ | exact (Below.refl _ _).drew | exact Below.drewN' (Below.refl _ _) _ | exact (Below.drewN' (Below.refl _ _) _).drew | exact D1.mono (by omega) | exact D2.mono (by omega) | exact ((D2.mono (by omega)).setCell (by simp) _).setCell (by simp) _))
    (first
      | (go_at_call 77; refine (H1'.out _ (by first | exact HB | exact HB.drew | exact Below.drewN' HB _ | exact (Below.drewN' HB _).drew)).mono ?_; rintro e w1 ⟨zs, ⟨A1, n1, c1, rfl, hl1, hb1⟩, hv1, hn1⟩; have D1 := Below.trans (by first | exact Below.refl _ _ | exact (Below.refl _ _).drew | exact Below.drewN' (Below.refl _ _) _ | exact (Below.drewN' (Below.refl _ _) _).drew : Below (w.heap.size + 1 + 1 + 1) (((w.alloc (.cells #[.bool neg, .slice A n c] 27)).alloc (.cells #[.bool neg', .slice A' m d] 27)).alloc (.cells #[.bool false, .slice none 0 0] 27)) _) (hb1.mono (by simp)); have HV1 := Lib.hid hv1; clear hv1)
      | (go_at_call 16; refine (H2'.out _ _ _ _ _ hl1 hn1 HV1.out).mono ?_; rintro e w2 ⟨neg2, A2, n2, c2, rfl, hi2, hb2⟩; have D2 := D1.trans (hb2.mono (by have := D1.size; simp at this; omega)); obtain ⟨k0, k1, f0, f1, _⟩ := R0.below D2 (by omega)))
  go_wp2
  exact bodyPost_ret (v := .agg #[.bool neg2, .slice A2 n2 c2]) (by simp [results, Tryd.results27, go_sem, k0, k1]) rfl
    (RetInt.stored hi2 (HB.trans (D1.mono (by omega))) (hb2.mono (by omega)) (by omega) k0 k1 rfl rfl)
set_option maxHeartbeats 1000000 in
theorem radd_ge (neg neg' : Bool) (A A' : Option Addr) (n c m d : Nat) (a b : Int) (w : World) (ha : IsInt w neg A n c a) (hb : IsInt w neg' A' m d b) (hn : n ≤ 100000) (_hm : m ≤ 100000) (hne : (neg == neg') = false) (hlt : ¬ a.natAbs < b.natAbs) :
    Calls Tryd.prog 27 #[.agg #[.bool neg, .slice A n c], .agg #[.bool neg', .slice A' m d]] w (RetInt w (a + b)) := by
  have H0 := fun W (hW : Below w.heap.size w W) => less_any A A' n c m d _ _ _ _ W (ha.lim.below hW) (hb.lim.below hW)
  rw [lessV_digs, decide_eq_false hlt] at H0
  have hlen : m ≤ n := by
    rw [← ha.lim.len, ← hb.lim.len]
    exact digs_len_mono (by omega)
  have H1 := fun W (hW : Below w.heap.size w W) => minus_any A A' n c m d w.heap.size w.heap.size (digs a.natAbs) (digs b.natAbs) W (ha.lim.below hW) (hb.lim.below hW) hW.size hW.size (by omega) hlen (by rw [val_digs, val_digs]; omega)
  have e1 : zOf neg (a.natAbs - b.natAbs) = a + b := by
    have h1 := ha.sign
    have h2 := hb.sign
    unfold zOf
    cases neg <;> cases neg' <;> simp at h1 h2 hne ⊢ <;> omega
  have hlen2 : (digs a.natAbs).length ≤ 100000 := by rw [ha.lim.len]; omega
  have H2 := fun A2 n2 c2 zs (W : World) (ha : Lim W W.heap.size A2 n2 c2 zs) (hl : zs.length = n) (hv : val zs = val (digs a.natAbs) - val (digs b.natAbs)) => made_val neg A2 n2 c2 (a.natAbs - b.natAbs) (a + b) zs W ha (by omega) (by rw [hv, val_digs, val_digs]) e1
  have H0' := Lib.hid H0
  have H1' := Lib.hid H1
  have H2' := Lib.hid H2
  clear H0 H1 H2 e1 hlt hlen hlen2
  obtain ⟨HB, P0, P1, R0⟩ := frame21 w (.bool neg) (.slice A n c) (.bool neg') (.slice A' m d)
  have HS : Hid (∀ W, Below (w.heap.size + 1 + 1) (((w.alloc (.cells #[.bool neg, .slice A n c] 27)).alloc (.cells #[.bool neg', .slice A' m d] 27)).alloc (.cells #[.bool false, .slice none 0 0] 27)) W → W.cell? ⟨w.heap.size, 0, none⟩ = some (.bool neg) ∧ W.cell? ⟨w.heap.size, 1, none⟩ = some (.slice A n c) ∧ W.cell? ⟨w.heap.size + 1, 0, none⟩ = some (.bool neg') ∧ W.cell? ⟨w.heap.size + 1, 1, none⟩ = some (.slice A' m d)) :=
    fun W hW => ⟨(P0.below hW (by omega)).1, (P0.below hW (by omega)).2.1, (P1.below hW (by omega)).1, (P1.below hW (by omega)).2.1⟩
  go_enter Tryd.func27, Tryd.ntmps27
  go_wp2_with fail
  refine (H0'.out _ HB).mono ?_
  rintro e wq ⟨rfl, hdq⟩
  obtain ⟨q, rfl⟩ := hdq
  go_wp2_with fail
  go_region_held3 (fun W => W.cell? ⟨w.heap.size, 0, none⟩ = some (.bool neg) ∧ W.cell? ⟨w.heap.size, 1, none⟩ = some (.slice A n c) ∧ W.cell? ⟨w.heap.size + 1, 0, none⟩ = some (.bool neg') ∧ W.cell? ⟨w.heap.size + 1, 1, none⟩ = some (.slice A' m d)) (exact HS.out _ (by first | exact Below.refl _ _ | exact (Below.refl _ _).drew | exact Below.drewN' (Below.refl _ _) _ | exact (Below.drewN' (Below.refl _ _) _).drew | exact D1.mono (by omega) | exact D2.mono (by omega) | exact ((D2.mono (by omega)).setCell (by simp) _).setCell (by simp) _))
    (first
      | (go_at_call 77; refine (H1'.out _ (by first | exact HB | exact HB.drew | exact Below.drewN' HB _ | exact (Below.drewN' HB _).drew)).mono ?_; rintro e w1 ⟨zs, ⟨A1, n1, c1, rfl, hl1, hb1⟩, hv1, hn1⟩; have D1 := Below.trans (by first | exact Below.refl _ _ | exact (Below.refl _ _).drew | exact Below.drewN' (Below.refl _ _) _ | exact (Below.drewN' (Below.refl _ _) _).drew : Below (w.heap.size + 1 + 1 + 1) (((w.alloc (.cells #[.bool neg, .slice A n c] 27)).alloc (.cells #[.bool neg', .slice A' m d] 27)).alloc (.cells #[.bool false, .slice none 0 0] 27)) _) (hb1.mono (by simp)); have HV1 := Lib.hid hv1; clear hv1)
      | (go_at_call 16; refine (H2'.out _ _ _ _ _ hl1 hn1 HV1.out).mono ?_; rintro e w2 ⟨neg2, A2, n2, c2, rfl, hi2, hb2⟩; have D2 := D1.trans (hb2.mono (by have := D1.size; simp at this; omega)); obtain ⟨k0, k1, f0, f1, _⟩ := R0.below D2 (by omega)))
  go_wp2
  exact bodyPost_ret (v := .agg #[.bool neg2, .slice A2 n2 c2]) (by simp [results, Tryd.results27, go_sem, k0, k1]) rfl
    (RetInt.stored hi2 (HB.trans (D1.mono (by omega))) (hb2.mono (by omega)) (by omega) k0 k1 rfl rfl)
theorem radd_any (neg neg' : Bool) (A A' : Option Addr) (n c m d : Nat) (a b : Int) (w : World) (ha : IsInt w neg A n c a) (hb : IsInt w neg' A' m d b) (hn : n ≤ 100000) (hm : m ≤ 100000) :
    Calls Tryd.prog 27 #[.agg #[.bool neg, .slice A n c], .agg #[.bool neg', .slice A' m d]] w (RetInt w (a + b)) := by
  cases h : (neg == neg')
  · by_cases hlt : a.natAbs < b.natAbs
    · exact radd_lt neg neg' A A' n c m d a b w ha hb hn hm h hlt
    · exact radd_ge neg neg' A A' n c m d a b w ha hb hn hm h hlt
  · obtain rfl : neg = neg' := by simpa using h
    exact radd_same neg A A' n c m d a b w ha hb hn hm
end Go.Proofs.YtnlmdjbakcjhbaaDoor
