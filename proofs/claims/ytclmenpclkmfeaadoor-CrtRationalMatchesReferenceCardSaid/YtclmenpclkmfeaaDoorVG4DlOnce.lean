/- Contract of integer.divideOnce. Contract of integer.shiftUp. Contract of integer.shiftDown. Contracts of integer.isNumber. Contracts of integer.groupValue and appendGroup. Contract of integer.powerOfTwo. Contract of torsionref01.plus. Contract of torsionref01.minus. Contracts of torsionref01.Add, Sub and Cmp. -/
import Derived.Test.YtclmenpclkmfeaaDoorVG3Num2
import Derived.Test.YtclmenpclkmfeaaDoorVG0Words
import Derived.Test.YtclmenpclkmfeaaDoorVG2Prod
namespace Go.Proofs.YtclmenpclkmfeaaDoor
open Go.RowKit
/-- What divideOnce leaves. -/
def OnceRes (w : World) (g n q r : Nat) (pre tl : List Nat) (e : Ending) (w' : World) : Prop :=
  ∃ ys, e = .returned (.int .u32 (q : Int)) ∧ Row w' g (pre ++ (ys ++ tl)) ∧ Limbs ys ∧ ys.length = n ∧ val ys = r ∧ w.grownBy w' (some g)
theorem Drawn.grown {w w' : World} (h : Drawn w w') (row : Option Nat) : w.grownBy w' row := by
  obtain ⟨q, rfl⟩ := h
  exact ⟨rfl, rfl, rfl, Nat.le_refl _, fun _ _ _ => rfl⟩
theorem top2 {xs : List Nat} {m : Nat} (h : xs.length = m + 2) : val xs = val (xs.take m) + 4294967296 ^ m * (xs.getD (m + 1) 0 * 4294967296 + xs.getD m 0) := by
  have h1 := val_take_succ xs (m + 1)
  rw [List.take_of_length_le (by omega)] at h1
  have h2 := val_take_succ xs m
  rw [Nat.pow_succ] at h1
  rw [Nat.mul_add, Nat.mul_comm (xs.getD (m + 1) 0), ← Nat.mul_assoc]
  omega
theorem mod_once {v c r P : Nat} (h : v + c * P = r + P) (hv : v < P) (hr : r < P) : v = r := by
  rcases Nat.lt_or_ge c 2 with h2 | h2
  · rcases Nat.eq_zero_or_pos c with h0 | h0
    · subst h0; omega
    · obtain rfl : c = 1 := by omega
      omega
  · have : 2 * P ≤ c * P := Nat.mul_le_mul_right _ h2
    omega
/-- The numbers of the estimate. -/
theorem once_near {xs ds : List Nat} {m t : Nat} (hx : xs.length = m + 2) (hd : ds.length = m + 2) (hLx : Limbs xs) (hLd : Limbs ds) (htop : 2147483648 ≤ ds.getD (m + 1) 0) (hq : val xs + 4294967296 ^ (m + 2) * t < 4294967296 * val ds) :
    t ≤ ds.getD (m + 1) 0 ∧ (val xs + 4294967296 ^ (m + 2) * t) / val ds ≤ estN ((xs.getD (m + 1) 0 + 4294967296 * t) * 4294967296 + xs.getD m 0) (ds.getD (m + 1) 0 * 4294967296 + ds.getD m 0) ∧
    estN ((xs.getD (m + 1) 0 + 4294967296 * t) * 4294967296 + xs.getD m 0) (ds.getD (m + 1) 0 * 4294967296 + ds.getD m 0) ≤ (val xs + 4294967296 ^ (m + 2) * t) / val ds + 1 := by
  have e1 := top2 hx
  have e2 := top2 hd
  have hd0 := getD_lt hLd m
  have l1 := val_lt (limbs_take hLx m)
  have l2 := val_lt (limbs_take hLd m)
  rw [List.length_take, Nat.min_eq_left (by omega)] at l1 l2
  have p2 : 4294967296 ^ (m + 2) = 4294967296 ^ m * 18446744073709551616 := by rw [Nat.pow_add]
  generalize xs.getD (m + 1) 0 = x1 at *
  generalize xs.getD m 0 = x0 at *
  generalize ds.getD (m + 1) 0 = d1 at *
  generalize ds.getD m 0 = d0 at *
  generalize val (xs.take m) = lx at *
  generalize val (ds.take m) = ld at *
  generalize val xs = X at *
  generalize val ds = D at *
  generalize 4294967296 ^ (m + 2) = P2 at *
  generalize 4294967296 ^ m = P at *
  subst p2
  have eA : X + P * 18446744073709551616 * t = ((x1 + 4294967296 * t) * 4294967296 + x0) * P + lx := by
    have hz : (x1 + 4294967296 * t) * 4294967296 + x0 = (x1 * 4294967296 + x0) + 18446744073709551616 * t := by omega
    have e3 : P * 18446744073709551616 * t = 18446744073709551616 * t * P := by rw [Nat.mul_assoc, Nat.mul_comm]
    rw [hz, Nat.add_mul, e3, e1, Nat.mul_comm P]
    omega
  have eD : D = (d1 * 4294967296 + d0) * P + ld := by rw [e2, Nat.mul_comm P]; omega
  have hP : 4294967296 * P ≤ D := by
    rw [eD]
    have : 4294967296 * P ≤ (d1 * 4294967296 + d0) * P := Nat.mul_le_mul_right _ (by omega)
    omega
  refine ⟨?_, est_near eA eD l1 l2 hq hP (by omega)⟩
  rcases Nat.lt_or_ge d1 t with h | h
  · exfalso
    have h1 : P * 18446744073709551616 * (d1 + 1) ≤ P * 18446744073709551616 * t := Nat.mul_le_mul_left _ h
    have h2 : (d1 * 4294967296 + d0 + 1) * P ≤ ((d1 + 1) * 4294967296) * P := Nat.mul_le_mul_right _ (by omega)
    have h3 : P * 18446744073709551616 * (d1 + 1) = 18446744073709551616 * ((d1 + 1) * P) := by rw [Nat.mul_comm P, Nat.mul_assoc, Nat.mul_comm P]
    have h4 : ((d1 + 1) * 4294967296) * P = 4294967296 * ((d1 + 1) * P) := by rw [Nat.mul_comm (d1 + 1), Nat.mul_assoc]
    rw [Nat.add_mul, Nat.one_mul] at h2
    omega
  · exact h
set_option maxHeartbeats 1000000 in
theorem once_any (g h i m c c' : Nat) (pre xs tl ds dt : List Nat) (w : World) (hR : Row w g (pre ++ (xs ++ tl))) (hD : Row w h (ds ++ dt)) (hne : h ≠ g) (hi : pre.length = i) (hxn : xs.length = m + 2) (hdn : ds.length = m + 2) (hLx : Limbs xs) (hLd : Limbs ds) (hLt : Limbs tl) (ht : 0 < tl.length) (hn : m ≤ 900000) (hil : i ≤ 1000000)
    (hc : m + 3 ≤ c) (_hcc : c ≤ 9223372036854775807) (hc' : m + 2 ≤ c') (_hcc' : c' ≤ 9223372036854775807) (htop : 2147483648 ≤ ds.getD (m + 1) 0) (hq : val xs + 4294967296 ^ (m + 2) * tl.getD 0 0 < 4294967296 * val ds) :
    Calls Tryd.prog 110 #[.slice (some ⟨g, i, none⟩) (m + 3) c, .slice (some ⟨h, 0, none⟩) (m + 2) c'] w
      (OnceRes w g (m + 2) ((val xs + 4294967296 ^ (m + 2) * tl.getD 0 0) / val ds) ((val xs + 4294967296 ^ (m + 2) * tl.getD 0 0) % val ds) pre tl) := by
  have near := once_near hxn hdn hLx hLd htop hq
  have hD0 : 0 < val ds := by omega
  have hxl := val_lt hLx
  have hdl := val_lt hLd
  rw [hxn] at hxl
  rw [hdn] at hdl
  obtain ⟨t, htt⟩ : ∃ t, t = tl.getD 0 0 := ⟨_, rfl⟩
  obtain ⟨x0, hx0⟩ : ∃ x, x = xs.getD m 0 := ⟨_, rfl⟩
  obtain ⟨x1, hx1⟩ : ∃ x, x = xs.getD (m + 1) 0 := ⟨_, rfl⟩
  obtain ⟨d0, hd0⟩ : ∃ x, x = ds.getD m 0 := ⟨_, rfl⟩
  obtain ⟨d1, hd1⟩ : ∃ x, x = ds.getD (m + 1) 0 := ⟨_, rfl⟩
  have k0 := hR.cell (k := i + m) (by rw [List.length_append, List.length_append, hi, hxn]; omega)
  have k1 := hR.cell (k := i + m + 1) (by rw [List.length_append, List.length_append, hi, hxn]; omega)
  have k2 := hR.cell (k := i + m + 2) (by rw [List.length_append, List.length_append, hi, hxn]; omega)
  have j0 := hD.cell (k := m) (by rw [List.length_append, hdn]; omega)
  have j1 := hD.cell (k := m + 1) (by rw [List.length_append, hdn]; omega)
  rw [getD_mid _ _ _ _ _ hi (by omega), ← hx0] at k0
  rw [Nat.add_assoc, getD_mid _ _ _ _ _ hi (by omega), ← hx1, ← Nat.add_assoc] at k1
  rw [Nat.add_assoc, getD_tl _ _ _ _ _ hi hxn, ← htt, ← Nat.add_assoc] at k2
  rw [getD_left _ _ (by omega), ← hd0] at j0
  rw [getD_left _ _ (by omega), ← hd1] at j1
  have b0 : x0 < 4294967296 := by rw [hx0]; exact getD_lt hLx _
  have b1 : x1 < 4294967296 := by rw [hx1]; exact getD_lt hLx _
  have b2 : d0 < 4294967296 := by rw [hd0]; exact getD_lt hLd _
  have b3 : d1 < 4294967296 := by rw [hd1]; exact getD_lt hLd _
  rw [← htt, ← hx0, ← hx1, ← hd0, ← hd1] at near
  rw [← hd1] at htop
  rw [← htt] at hq ⊢
  obtain ⟨n1, n2, n3⟩ := near
  have HE := fun W (hd : Drawn w W) => dlest_any g (i + m) h m (c - m) (c' - m) x0 x1 t d0 d1 W (by rw [hd.cell]; exact k0) (by rw [hd.cell]; exact k1) (by rw [hd.cell]; exact k2) (by rw [hd.cell]; exact j0) (by rw [hd.cell]; exact j1) b0 b1 n1 b2 htop b3
  have hG : estN ((x1 + 4294967296 * t) * 4294967296 + x0) (d1 * 4294967296 + d0) ≤ 4294967295 := Nat.min_le_left _ _
  generalize estN ((x1 + 4294967296 * t) * 4294967296 + x0) (d1 * 4294967296 + d0) = G at *
  clear k0 k1 k2 j0 j1 hx0 hx1 hd0 hd1 b0 b1 b2 b3 htop n1
  have HS := fun W (hd : Drawn w W) => subm_any g h i (m + 2) c c' G pre xs tl ds dt W (by obtain ⟨q, rfl⟩ := hd; exact hR) (by obtain ⟨q, rfl⟩ := hd; exact hD) hne hi hxn hdn hLx hLd hLt ht (by omega) hil (by omega)
  have HA := fun W ys (hg : w.grownBy W (some g)) (hy : Row W g (pre ++ (ys ++ tl))) (hl : ys.length = m + 2) (hL : Limbs ys) => addBack_any g h i (m + 2) c c' pre ys tl ds dt W hy (hD.grown hg hne) hne hi hl hdn hL hLd (by omega) hil
  have HE' := Lib.hid HE
  have HS' := Lib.hid HS
  have HA' := Lib.hid HA
  have HTT := Lib.hid htt
  clear HE HS HA htt hR hD hLx hLd hLt ht hi hxn hdn
  have i1 : ((m + 2 : Nat) : Int) - 2 = (m : Int) := by omega
  have i2 : IntKind.i64.wrap (((m + 2 : Nat) : Int) - 2) = (m : Int) := by rw [IntKind.wrap_i64]; omega
  go_enter Tryd.func110, Tryd.ntmps110
  go_wp2
  go_quiet ((go_at_call 111; exact quietD (HE'.out _ (Drawn.drewN (Drawn.refl _) _))))
  go_wp2_with fail
  refine (HS'.out _ (Drawn.drewN (Drawn.refl _) _)).mono ?_
  rintro e w1 ⟨ys, cr, rfl, hRy, hLy, hly, hv, hg⟩
  have G1 : w.grownBy w1 (some g) := ((Drawn.drewN (Drawn.refl w) _).grown (some g)).trans hg
  rw [← HTT.out]
  have hyl := val_lt hLy
  rw [hly] at hyl
  obtain ⟨s1, s2⟩ := subm_end (A := val xs + 4294967296 ^ (m + 2) * t) (n := 0) (by rw [Nat.mul_comm]) hv hyl (Nat.le_of_lt hdl) rfl hD0 n2 n3 rfl
  have HAB := Lib.hid (HA'.out w1 ys G1 hRy hly hLy)
  have hrl := Nat.lt_of_lt_of_le (Nat.mod_lt (val xs + 4294967296 ^ (m + 2) * t) hD0) (Nat.le_of_lt hdl)
  have HLY := Lib.hid hly
  generalize (val xs + 4294967296 ^ (m + 2) * t) / val ds = q at *
  generalize (val xs + 4294967296 ^ (m + 2) * t) % val ds = r at *
  have S1 := Lib.hid s1
  have S2 := Lib.hid s2
  have HRL := Lib.hid hrl
  clear hv s1 s2 hyl hly hdl hxl hq hrl
  by_cases hb : t < cr
  · have f1 : decide (t < cr) = true := by simpa using hb
    obtain ⟨g1, g2⟩ := S2.out hb
    subst g1
    have HG2 := Lib.hid g2
    clear g2
    go_wp2_with fail
    refine HAB.out.mono ?_
    rintro e w2 ⟨zs, c2, rfl, hRz, hLz, hlz, hvz, hgz⟩
    have hvz' := Lib.hid hvz
    have hlz' := Lib.hid hlz
    clear hvz hlz
    go_wp2
    go_ret
    refine ⟨zs, retI (by omega), hRz, hLz, hlz'.out, ?_, G1.trans hgz⟩
    have h1 := val_lt hLz
    rw [hlz'.out] at h1
    exact mod_once (by rw [← hvz'.out, HG2.out]) h1 HRL.out
  · have f1 : decide (t < cr) = false := by simpa using hb
    obtain ⟨g1, g2⟩ := S1.out hb
    have HG1 := Lib.hid g1
    have HG2 := Lib.hid g2
    clear g1 g2
    go_wp2
    go_ret
    exact ⟨ys, retI (by rw [HG1.out]), hRy, hLy, HLY.out, HG2.out, G1⟩
end Go.Proofs.YtclmenpclkmfeaaDoor
namespace Go.Proofs.YtclmenpclkmfeaaDoor
open Go.RowKit
theorem or_high (s : Nat) (hs : s < 32) (x q : Nat) (hq : q < 2 ^ s) : bits .or .u32 (q : Int) ((x * 2 ^ s : Nat) % 4294967296 : Int) = ((x * 2 ^ s % 4294967296 + q : Nat) : Int) := by
  have h32 : (4294967296 : Nat) = 2 ^ s * 2 ^ (32 - s) := by rw [← Nat.pow_add, show s + (32 - s) = 32 by omega]
  have hql : q < 4294967296 := Nat.lt_of_lt_of_le hq (by rw [h32]; exact Nat.le_mul_of_pos_right _ (Nat.two_pow_pos _))
  have e : x * 2 ^ s % 4294967296 = 2 ^ s * (x % 2 ^ (32 - s)) := by rw [h32, Nat.mul_comm x, Nat.mul_mod_mul_left]
  have em : (((x * 2 ^ s : Nat) : Int) % 4294967296) = ((x * 2 ^ s % 4294967296 : Nat) : Int) := by omega
  have hm := Nat.mod_lt (x * 2 ^ s) (show 0 < 4294967296 by omega)
  rw [em, u32_or_nat _ _ (by omega) (by omega), Nat.or_comm, e, ← Nat.two_pow_add_eq_or_of_lt hq]
theorem val_take_set2 (R : List Nat) (k u v : Nat) (h : k + 1 < R.length) : val (((R.set k u).set (k + 1) v).take (k + 1 + 1)) = val (R.take k) + 4294967296 ^ k * u + 4294967296 ^ (k + 1) * v := by
  rw [val_set_take _ _ _ (by rw [List.length_set]; omega), val_set_take _ _ _ (by omega)]
theorem shu_step {X V P T x q t lo : Nat} (h : V + P * q = X * T) (ht : t = x * T) (hlo : lo = t % 4294967296 + q) : V + P * lo + P * 4294967296 * (t / 4294967296) = (X + P * x) * T := by
  subst ht hlo
  have e1 : P * (x * T) = P * (4294967296 * (x * T / 4294967296) + x * T % 4294967296) := by rw [Nat.div_add_mod]
  rw [Nat.add_mul, ← h, Nat.mul_assoc P x T, e1, Nat.mul_add, Nat.mul_add, Nat.mul_assoc]
  omega
/-- A fresh row of limbs comes back. -/
def RetRow (w : World) (n : Nat) (v : Nat) (e : Ending) (w' : World) : Prop := ∃ R : List Nat, e = .returned (.slice (some ⟨w.heap.size, 0, none⟩) n n) ∧ Row w' w.heap.size R ∧ Limbs R ∧ R.length = n ∧ val R = v ∧ Below w.heap.size w w'
set_option maxHeartbeats 1000000 in
theorem shiftUp_any (A : Option Addr) (n c B s : Nat) (xs : List Nat) (w : World) (ha : Lim w B A n c xs) (hB : B ≤ w.heap.size) (hn : n ≤ 1000000) (hs : s < 32) :
    Calls Tryd.prog 109 #[.slice A n c, .int .i64 (s : Int)] w (RetRow w (n + 1) (val xs * 2 ^ s)) := by
  have hmk : ∀ W : World, (Instr.makeSlice 26 (.int .i64 ((n : Int) + 1)) (.int .i64 ((n : Int) + 1))).run Tryd.prog W =
    .ok (.slice (some ⟨W.heap.size, 0, none⟩) (n + 1) (n + 1)) (W.alloc (.cells (madeCells #[.int .u32 0] (n + 1)) 69)) := fun W => make_u32 (n + 1) (by omega) W
  go_enter Tryd.func109, Tryd.ntmps109
  go_wp2
  go_loopw [14] (fun i wr => ∃ k q : Nat, ∃ R : List Nat, k ≤ n ∧ i = .int .i64 k ∧ q < 2 ^ s ∧ Row wr w.heap.size R ∧ Limbs R ∧ Hid (R.length = n + 1) ∧ Hid (R.getD k 0 = q) ∧ Hid (val (R.take (k + 1)) = val (xs.take k) * 2 ^ s) ∧ Below w.heap.size w wr) (fun i _ => n - (intOf i).toNat)
  case atStart =>
    refine ⟨0, 0, _, by omega, rfl, Nat.two_pow_pos _, Row.made w (n + 1), limbs_zeros _, by simp [Hid], ?_, ?_, (Below.refl _ _).alloc (Nat.le_refl _) _⟩
    · simp [Hid, List.replicate_succ]
    · simp [Hid, val, List.replicate_succ]
  case round =>
    obtain ⟨k, q, R, hk, rfl, hq, hR, hL, hlen, hrk, hv, hbel⟩ := hrel
    by_cases hkn : k < n
    · obtain ⟨ad, rfl, _, x, hx, hxl, hcx⟩ := (ha.below (hbel.mono hB)).at_ hkn
      have hcr := hR.cell (k := k) (by rw [hlen.out]; omega)
      rw [hrk.out] at hcr
      have hcr1 := hR.cell (k := k + 1) (by rw [hlen.out]; omega)
      have hfr := hR.frozen k
      have hfr1 := hR.frozen (k + 1)
      have hB32 : (4294967296 : Nat) = 2 ^ s * 2 ^ (32 - s) := by rw [← Nat.pow_add, show s + (32 - s) = 32 by omega]
      have hsl : 2 ^ s ≤ 2147483648 := (Nat.pow_le_pow_right (show 0 < 2 by omega) (show s ≤ 31 by omega) : 2 ^ s ≤ 2 ^ 31)
      obtain ⟨t, ht⟩ : ∃ t : Nat, t = x * 2 ^ s := ⟨_, rfl⟩
      have htl : t < 9223372036854775808 := by
        rw [ht]
        have : x * 2 ^ s ≤ 4294967295 * 2147483648 := Nat.mul_le_mul (by omega) hsl
        omega
      have hxt : (x : Int) * 2 ^ s = (t : Int) := by rw [ht, Int.natCast_mul, Int.natCast_pow]; rfl
      have e1 := or_high s hs x q hq
      rw [← ht] at e1
      have htq : t / 4294967296 < 2 ^ s := by
        rw [Nat.div_lt_iff_lt_mul (by omega), ht, Nat.mul_comm]
        exact Nat.mul_lt_mul_of_pos_left hxl (Nat.two_pow_pos _)
      obtain ⟨lo, hlo⟩ : ∃ lo, lo = t % 4294967296 + q := ⟨_, rfl⟩
      have hlol : lo < 4294967296 := by
        have e : t % 4294967296 = 2 ^ s * (x % 2 ^ (32 - s)) := by rw [ht, hB32, Nat.mul_comm x, Nat.mul_mod_mul_left]
        have h1 := Nat.mod_lt x (Nat.two_pow_pos (32 - s))
        have h2 : 2 ^ s * (x % 2 ^ (32 - s) + 1) ≤ 2 ^ s * 2 ^ (32 - s) := Nat.mul_le_mul_left _ h1
        rw [Nat.mul_add] at h2
        omega
      rw [← hlo] at e1
      have HT := Lib.hid ht
      have HLO := Lib.hid hlo
      have HB32 := Lib.hid hB32
      clear ht hlo hB32
      have w0 : IntKind.u64.wrap (t : Int) = (t : Int) := by rw [IntKind.wrap_u64]; omega
      have e2 : (t : Int) / 4294967296 % 4294967296 = ((t / 4294967296 : Nat) : Int) := by omega
      go_wp2
      go_roundw
      case rel =>
        refine ⟨k + 1, t / 4294967296, (R.set k lo).set (k + 1) (t / 4294967296), by omega, by go_num, htq, ?_, limbs_set (limbs_set hL _ hlol) _ (by omega), by rw [Hid, List.length_set, List.length_set]; exact hlen.out, ?_, ?_, (hbel.setCell (by simp) _).setCell (by simp) _⟩
        · exact (hR.set _ _).set _ _
        · rw [Hid, List.getD_eq_getElem?_getD, List.getElem?_set_self (by rw [List.length_set, hlen.out]; omega)]; rfl
        · rw [Hid, val_take_set2 _ _ _ _ (by rw [hlen.out]; omega), val_take_succ xs, ← hx.out, Nat.pow_succ]
          have h1 := hv.out
          rw [val_take_succ, hrk.out] at h1
          exact shu_step h1 HT.out HLO.out
      case measure => simp [intOf]; omega
    · obtain rfl : k = n := by omega
      go_wp2
      go_ret
      refine ⟨R, rfl, hR, hL, hlen.out, ?_, hbel⟩
      have h1 := hv.out
      rw [List.take_of_length_le (by rw [hlen.out]; exact Nat.le_refl _), List.take_of_length_le (by rw [ha.len]; exact Nat.le_refl _)] at h1
      exact h1
end Go.Proofs.YtclmenpclkmfeaaDoor
namespace Go.Proofs.YtclmenpclkmfeaaDoor
open Go.RowKit
set_option maxHeartbeats 1000000 in
theorem shiftDown_any (A : Option Addr) (n c B s : Nat) (xs : List Nat) (w : World) (ha : Lim w B A n c xs) (hB : B ≤ w.heap.size) (hn : n ≤ 1000000) (hs : s < 32) :
    Calls Tryd.prog 85 #[.slice A n c, .int .i64 (s : Int)] w fun e w' => ∃ zs, RetSl w zs e w' ∧ val zs = val xs / 2 ^ s ∧ zs.length = n := by
  have hmk := fun W => make_u32 n (by omega) W
  go_enter Tryd.func85, Tryd.ntmps85
  go_wp2
  go_loopw [6, 7] (fun hi i wr => ∃ k : Int, ∃ h : Nat, ∃ R : List Nat, -1 ≤ k ∧ k < n ∧ i = .int .i64 k ∧ hi = .int .u64 h ∧ h < 18446744073709551616 ∧ Row wr w.heap.size R ∧ Limbs R ∧ Hid (R.length = n) ∧ Hid (h % 4294967296 = xs.getD (k + 1).toNat 0) ∧
    Hid (val (R.drop (k + 1).toNat) = val (xs.drop (k + 1).toNat) / 2 ^ s) ∧ Below w.heap.size w wr) (fun _ i _ => (intOf i + 1).toNat)
  case atStart =>
    refine ⟨n - 1, 0, _, by omega, by omega, rfl, rfl, by omega, Row.made w n, limbs_zeros _, by simp [Hid], ?_, ?_, (Below.refl _ _).alloc (Nat.le_refl _) _⟩
    · rw [Hid, show ((n : Int) - 1 + 1).toNat = n by omega, List.getD_eq_getElem?_getD, List.getElem?_eq_none (by rw [ha.len]; exact Nat.le_refl _)]; rfl
    · rw [Hid, show ((n : Int) - 1 + 1).toNat = n by omega, List.drop_of_length_le (by simp), List.drop_of_length_le (by rw [ha.len]; exact Nat.le_refl _)]; simp [val]
  case round =>
    obtain ⟨k, h, R, hk, hkn, rfl, rfl, hh, hR, hL, hlen, hm, hv, hbel⟩ := hrel
    by_cases h0 : 0 ≤ k
    · obtain ⟨k, rfl⟩ := Int.eq_ofNat_of_zero_le h0
      have hkn' : k < n := by omega
      obtain ⟨ad, rfl, _, x, hx, hxl, hcx⟩ := (ha.below (hbel.mono hB)).at_ hkn'
      have hcr := hR.cell (k := k) (by rw [hlen.out]; omega)
      have hfr := hR.frozen k
      go_wp2
      have e1 : bits BinOp.or IntKind.u64 (IntKind.u64.wrap ((h : Int) * 4294967296)) (x : Int) = ((x + 4294967296 * (h % 4294967296) : Nat) : Int) := by
        have e0 : IntKind.u64.wrap ((h : Int) * 4294967296) = ((h % 4294967296 : Nat) : Int) * 4294967296 := by rw [IntKind.wrap_u64]; omega
        rw [e0]; exact or_limbs x (h % 4294967296) hxl (Nat.mod_lt _ (by omega))
      rw [e1]
      have hml := Nat.mod_lt h (show 0 < 4294967296 by omega)
      have e2 : ((((x + 4294967296 * (h % 4294967296)) / 2 ^ s) % 4294967296 : Nat) : Int) = ((x + 4294967296 * (h % 4294967296) : Nat) : Int) / 2 ^ s % 4294967296 := by rw [Int.natCast_emod, Int.natCast_ediv, Int.natCast_pow]; rfl
      refine ⟨⟨(k : Int) - 1, x + 4294967296 * (h % 4294967296), R.set k (((x + 4294967296 * (h % 4294967296)) / 2 ^ s) % 4294967296), by omega, by omega, rfl, rfl, by omega, ?_, limbs_set hL _ (Nat.mod_lt _ (by omega)), by rw [Hid, List.length_set]; exact hlen.out, ?_, ?_, hbel.setCell (by simp) _⟩, by show ((k : Int) - 1 + 1).toNat < ((k : Int) + 1).toNat; omega⟩
      · rw [← e2]; exact hR.set _ _
      · rw [Hid, show ((k : Int) - 1 + 1).toNat = k by omega, ← hx.out]; omega
      · rw [Hid, show ((k : Int) - 1 + 1).toNat = k by omega]
        have hm1 := hm.out
        have hv1 := hv.out
        rw [show ((k : Int) + 1).toNat = k + 1 by omega] at hm1 hv1
        have hp : (2 : Nat) ^ 32 = 2 ^ s * 2 ^ (32 - s) := by rw [← Nat.pow_add]; congr 1; omega
        have hmod := val_mod (limbs_drop ha.lt (k + 1))
        rw [getD_drop, Nat.add_zero] at hmod
        rw [val_set_drop (by rw [hlen.out]; omega), val_drop_cons (xs := xs) (k := k) (by rw [ha.len]; omega), hv1, ← hx.out]
        rw [shift_step x (val (xs.drop (k + 1))) (h % 4294967296) (2 ^ s) (2 ^ (32 - s)) (by rw [← hp]) (Nat.two_pow_pos s) hxl (by rw [hm1, hmod])]
    · obtain rfl : k = -1 := by omega
      go_wp2
      go_ret
      have hv1 := hv.out
      exact ⟨R, ⟨_, _, _, rfl, hR.len_lim hL n hlen.out (by omega), hbel⟩, hv1, hlen.out⟩
end Go.Proofs.YtclmenpclkmfeaaDoor
namespace Go.Proofs.YtclmenpclkmfeaaDoor
open Go.RowKit
/-- All bytes are decimal digits. -/
def allDig (s : ByteArray) : Prop := ∀ j (h : j < s.size), 48 ≤ s[j].toNat ∧ s[j].toNat ≤ 57
/-- What the program calls a number: digits without a superfluous zero before them. -/
def numOk (s : ByteArray) : Prop := allDig s ∧ (s.toList = [48] ∨ ∃ h : 0 < s.size, s[0].toNat ≠ 48)
/-- A bool comes back that says whether p, and nothing turns. -/
def RetB (p : Prop) (w : World) (e : Ending) (w' : World) : Prop := ∃ b : Bool, e = .returned (.bool b) ∧ (b = true ↔ p) ∧ w = w'
theorem toL_len (s : ByteArray) : s.toList.length = s.size := by rw [ByteArray.toList_eq]; rfl
theorem toL_empty {s : ByteArray} (h : s.size = 0) : s.toList.isEmpty = true := by
  have := toL_len s; rw [h] at this; simp [List.eq_nil_of_length_eq_zero this]
theorem toL_some {s : ByteArray} (h : s.size ≠ 0) : s.toList.isEmpty = false := by
  have h1 := toL_len s
  cases h2 : s.toList with
  | nil => rw [h2] at h1; exact absurd h1.symm h
  | cons a l => rfl
end Go.Proofs.YtclmenpclkmfeaaDoor
namespace Go.Proofs.YtclmenpclkmfeaaDoor
open Go.RowKit
/-- The number that a row of decimal digits stands for. -/
def dec (l : List UInt8) : Nat := l.foldl (fun n c => 10 * n + (c.toNat - 48)) 0
theorem dec_snoc (l : List UInt8) (c : UInt8) : dec (l ++ [c]) = 10 * dec l + (c.toNat - 48) := by simp [dec, List.foldl_append]
theorem toL_get (s : ByteArray) (k : Nat) (h : k < s.size) : s.toList[k]? = some s[k] := by
  rw [ByteArray.toList_eq, Array.getElem?_toList]
  exact Array.getElem?_eq_getElem h
theorem take_snoc (s : ByteArray) (k : Nat) (h : k < s.size) : s.toList.take (k + 1) = s.toList.take k ++ [s[k]] := by
  rw [List.take_add_one, toL_get s k h]; rfl
theorem dec_take (s : ByteArray) (k : Nat) (h : k < s.size) : dec (s.toList.take (k + 1)) = 10 * dec (s.toList.take k) + (s[k].toNat - 48) := by
  rw [take_snoc s k h, dec_snoc]
theorem dec_lt (s : ByteArray) (hd : allDig s) : ∀ k, k ≤ s.size → dec (s.toList.take k) < 10 ^ k
  | 0, _ => by simp [dec]
  | k + 1, h => by
    rw [dec_take s k h]
    have := dec_lt s hd k (by omega)
    have h2 := hd k h
    rw [Nat.pow_succ]
    omega
theorem Own.at_ {w : World} {base : Nat} {A : Option Addr} {n c : Nat} {xs : List Nat} (h : Own w base (.slice A n c) n xs) {k : Nat} (hk : k < n) :
    ∃ g, A = some ⟨g, 0, none⟩ ∧ base ≤ g ∧ g < w.heap.size ∧ n ≤ c ∧ w.cell? ⟨g, k, none⟩ = some (.int .u32 ((xs.getD k 0 : Nat) : Int)) ∧ w.frozen? ⟨g, k, none⟩ = false ∧
      ∀ x : Nat, Own (w.setCell ⟨g, k, none⟩ (.int .u32 (x : Int))) base (.slice A n c) n (xs.set k x) := by
  have hlen := h.len
  rcases h.2 with ⟨e, h0⟩ | ⟨g, cap, cur, e, hb, hg, hn, hm, hs, ht⟩
  · omega
  · cases e
    refine ⟨g, rfl, hb, (Array.getElem?_eq_some_iff.1 hg).1, hn, ?_, by simp [World.frozen?, hg], fun x => ⟨by rw [ints_len, List.length_set]; omega, .inr ⟨g, c, cur.set! k (.int .u32 (x : Int)), rfl, hb, ?_, hn, hm, by simpa using hs, ?_⟩⟩⟩
    · rw [cell_of_row w g k cur _ _ hg, ← ints_get xs k (by omega), ← ht, Nat.mul_one, List.getElem?_take, if_pos hk]
      simp
    · simp [World.setCell, Array.getElem?_modify, hg]
    · rw [Nat.mul_one] at ht ⊢
      rw [Array.set!_eq_setIfInBounds, Array.toList_setIfInBounds, List.take_set, ht]
      simp [ints, List.map_set]
theorem Own.block_ge {w : World} {base : Nat} {v : Value} {n : Nat} {xs : List Nat} (h : Own w base v n xs) {j : Nat} (hj : v.ownBlock = some j) : base ≤ j := by
  rcases h.2 with ⟨rfl, _⟩ | ⟨g, cap, cur, rfl, hb, _⟩
  · simp [Value.ownBlock] at hj
  · simp [Value.ownBlock] at hj; omega
end Go.Proofs.YtclmenpclkmfeaaDoor
namespace Go.Proofs.YtclmenpclkmfeaaDoor
open Go.RowKit
set_option maxHeartbeats 400000 in
theorem pow2_any (n : Nat) (w : World) (hn : n ≤ 32000000) :
    Calls Tryd.prog 83 #[.int .i64 (n : Int)] w fun e w' => ∃ zs, RetSl w zs e w' ∧ val zs = 2 ^ n ∧ zs.length = n / 32 + 1 := by
  obtain ⟨q, hq⟩ : ∃ q, q = n / 32 := ⟨_, rfl⟩
  obtain ⟨r, hr⟩ : ∃ r, r = n % 32 := ⟨_, rfl⟩
  have hrl : r < 32 := by omega
  have hql : q ≤ 1000000 := by omega
  have e1 : (n : Int) / 32 = (q : Int) := by omega
  have e2 : (n : Int) % 32 = (r : Int) := by omega
  have HN : Hid (n = 32 * q + r) := by rw [Hid]; omega
  clear hq hr
  have hmk : ∀ W : World, (Instr.makeSlice 26 (.int .i64 ((q : Int) + 1)) (.int .i64 ((q : Int) + 1))).run Tryd.prog W =
    .ok (.slice (some ⟨W.heap.size, 0, none⟩) (q + 1) (q + 1)) (W.alloc (.cells (madeCells #[.int .u32 0] (q + 1)) 69)) := fun W => make_u32 (q + 1) (by omega) W
  have hR := Row.made w (q + 1)
  have hc := hR.cell (k := q) (by simp)
  have hf := hR.frozen q
  go_enter Tryd.func83, Tryd.ntmps83
  go_wp2
  go_ret
  have hxl : (2 : Nat) ^ r < 4294967296 := by
    have h1 : (2 : Nat) ^ r < 2 ^ 32 := Nat.pow_lt_pow_right (by omega) hrl
    exact Nat.lt_of_lt_of_le h1 (by decide)
  have hx : (2 : Int) ^ r % 4294967296 = ((2 ^ r : Nat) : Int) := by
    have h2 : ((2 ^ r : Nat) : Int) = (2 : Int) ^ r := Int.natCast_pow 2 r
    rw [← h2]
    exact Int.emod_eq_of_lt (Int.natCast_nonneg _) (Int.ofNat_lt.2 hxl)
  rw [hx]
  have hR2 : Row (w.alloc (.cells ((madeCells #[.int .u32 0] (q + 1)).setIfInBounds q (.int .u32 ((2 ^ r : Nat) : Int))) 69)) w.heap.size ((List.replicate (q + 1) 0).set q (2 ^ r)) := by
    apply row_new
    rw [← Array.toList_inj, Array.toList_setIfInBounds, toList_madeCells_one]
    simp [ints, List.map_set]
  have hlen : ((List.replicate (q + 1) 0).set q (2 ^ r)).length = q + 1 := by simp
  refine ⟨_, ⟨_, _, _, rfl, hR2.len_lim (limbs_set (limbs_zeros _) _ hxl) (q + 1) hlen (by omega), (Below.refl _ _).alloc (Nat.le_refl _) _⟩, ?_, ?_⟩
  · have h1 := val_set (List.replicate (q + 1) 0) q (2 ^ r) (by simp)
    rw [val_zeros] at h1
    have h2 : (List.replicate (q + 1) 0).getD q 0 = 0 := by
      rw [List.getD_eq_getElem?_getD, List.getElem?_replicate]
      split <;> rfl
    rw [h2] at h1
    have h3 : (4294967296 : Nat) ^ q = 2 ^ (32 * q) := by rw [Nat.pow_mul]
    rw [HN.out, Nat.pow_add, ← h3]
    omega
  · rw [hlen, HN.out]; omega
end Go.Proofs.YtclmenpclkmfeaaDoor
namespace Go.Proofs.YtclmenpclkmfeaaDoor
open Go.RowKit
theorem take_none {xs : List Nat} {k : Nat} (h : xs.length ≤ k) : xs.getD k 0 = 0 := by
  rw [List.getD_eq_getElem?_getD, List.getElem?_eq_none h]; rfl
theorem limbs_snoc {R : List Nat} (h : Limbs R) {v : Nat} (hv : v < 4294967296) : Limbs (R ++ [v]) := by
  intro x hx
  rcases List.mem_append.1 hx with e | e
  · exact h x e
  · simp at e; omega
theorem val_snoc (R : List Nat) (v k : Nat) (h : R.length = k) : val (R ++ [v]) = val R + 4294967296 ^ k * v := by
  rw [val_append, h]; simp [val]
/-- A new block of one limb. -/
theorem one_limb (wr : World) (q : Nat) (hq : q < 4294967296) (u : Int) (hu : u = (q : Int)) : Lim (wr.alloc (.cells #[.int .u32 u] 69)) (wr.heap.size + 1) (some ⟨wr.heap.size, 0, none⟩) 1 1 [q] := by
  subst hu
  have := (row_new wr [q] _ rfl).len_lim (by intro z hz; simp at hz; omega) 1 rfl (by omega)
  rwa [World.size_alloc] at this
/-- What holds of the sum at a round's head. -/
structure PlusInv (w : World) (N : Nat) (xs ys : List Nat) (wr : World) (k q : Nat) (R : List Nat) (A0 : Option Addr) (c0 : Nat) : Prop where
  own : Own wr w.heap.size (.slice A0 k c0) k R
  lim : Limbs R
  eqn : val (xs.take k) + val (ys.take k) = val R + q * 4294967296 ^ k
  end_ : k = N + 1 → q = 0
  bel : Below w.heap.size w wr
theorem PlusInv.step {w : World} {N : Nat} {xs ys : List Nat} {wr : World} {k q : Nat} {R : List Nat} {A0 : Option Addr} {c0 : Nat} (h : PlusInv w N xs ys wr k q R A0 c0) {u : Int} {x y t : Nat} (hx : x = xs.getD k 0) (hy : y = ys.getD k 0) (ht : t = q + x + y) (hN : k = N → t < 4294967296)
    {w1 : World} {A' : Option Addr} {c' : Nat} (ho : Own w1 w.heap.size (.slice A' (k + 1) c') (k + 1) (R ++ [t % 4294967296])) (hg : (wr.alloc (.cells #[.int .u32 u] 69)).grownBy w1 (Value.slice A0 k c0).ownBlock) :
    PlusInv w N xs ys w1 (k + 1) (t / 4294967296) (R ++ [t % 4294967296]) A' c' := by
  refine ⟨ho, limbs_snoc h.lim (by omega), ?_, fun e => ?_, (h.bel.alloc h.bel.size _).grown hg (by have := h.bel.size; simp; omega) (fun j hj => h.own.block_ge hj)⟩
  · rw [val_take_succ xs, val_take_succ ys, ← hx, ← hy, val_snoc R _ k h.own.len, Nat.pow_succ]
    exact sum_step h.eqn (by omega)
  · have := hN (by omega)
    omega
set_option maxHeartbeats 2000000 in
theorem plus_any (A A' : Option Addr) (n c m d B B' N : Nat) (xs ys : List Nat) (w : World) (ha : Lim w B A n c xs) (hb : Lim w B' A' m d ys) (hB : B ≤ w.heap.size) (hB' : B' ≤ w.heap.size) (hn : n ≤ N) (hm : m ≤ N) (hN : N ≤ 100000) :
    Calls Tryd.prog 49 #[.slice A n c, .slice A' m d] w fun e w' => ∃ zs, RetSl w zs e w' ∧ val zs = val xs + val ys ∧ zs.length ≤ N + 1 := by
  have HLx := Lib.hid ha.len
  have HLy := Lib.hid hb.len
  have E0 := Own.empty w w.heap.size (Nat.le_refl _)
  go_enter Tryd.func49, Tryd.ntmps49
  go_wp2
  go_loopw [5, 6, 7] (fun o cr i wr => ∃ (k q : Nat) (R : List Nat) (A0 : Option Addr) (c0 : Nat), o = .slice A0 k c0 ∧ cr = .int .u64 q ∧ i = .int .i64 k ∧ q ≤ 1 ∧ k ≤ N + 1 ∧ PlusInv w N xs ys wr k q R A0 c0) (fun _ _ i _ => N + 1 - (intOf i).toNat)
  case atStart => exact ⟨0, 0, [], _, _, rfl, rfl, rfl, by omega, by omega, E0, (fun x hx => by simp at hx), by simp [val], fun h => by omega, (Below.refl _ _).alloc (Nat.le_refl _) _⟩
  case round =>
    obtain ⟨k, q, R, A0, c0, rfl, rfl, rfl, hq, hk, HI⟩ := hrel
    have hbs := HI.bel.size
    have hY2 : ∀ u : Int, Own (wr.alloc (.cells #[.int .u32 u] 69)) w.heap.size (.slice A0 k c0) k R := fun u => HI.own.keep ((Below.refl _ _).alloc (Nat.le_refl _) _)
    have HY := Lib.hid hY2
    clear hY2
    by_cases hkn : k < n
    · obtain ⟨ad, rfl, _, x, hx, hxl, hcx⟩ := (ha.below (HI.bel.mono hB)).at_ hkn
      by_cases hkm : k < m
      · obtain ⟨ad', rfl, _, y, hy, hyl, hcy⟩ := (hb.below (HI.bel.mono hB')).at_ hkm
        have HX : Hid (x = xs.getD k 0 ∧ y = ys.getD k 0) := ⟨hx.out, hy.out⟩
        have e1 : (((q + x + y) % 4294967296 : Nat) : Int) = ((q : Int) + (x : Int) + (y : Int)) % 4294967296 := by omega
        have e2 : (((q + x + y) / 4294967296 : Nat) : Int) = ((q : Int) + (x : Int) + (y : Int)) / 4294967296 := by omega
        have E1 := Lib.hid e1
        have E2 := Lib.hid e2
        clear e1 e2
        go_wp2_with (at_builtin; refine wpList_append_lim _ rfl (.tmp 47) (.tmp 50) rfl w.heap.size (.slice A0 k c0) k R rfl ?h1 ?h2 (wr.heap.size + 1) (some ⟨wr.heap.size, 0, none⟩) 1 1 [(q + x + y) % 4294967296] rfl ?h3 ?h4 ?h5 ?h6)
        case h1 => exact HY.out _
        case h2 => exact HI.lim
        case h3 => exact one_limb wr _ (by omega) _ (by have := E1.out; omega)
        case h4 => omega
        case h5 => (first | (rw [World.size_alloc]; omega) | omega)
        case h6 =>
          intro A1 c1 w1 hl ho hg2
          have HJ := HI.step HX.out.1 HX.out.2 (t := q + x + y) rfl (by omega) ho hg2
          clear hl ho hg2
          go_wp2
          go_roundw
          case rel => exact ⟨k + 1, (q + x + y) / 4294967296, _, A1, c1, rfl, by have := E2.out; congr 1 <;> omega, rfl, by omega, by omega, HJ⟩
          case measure => simp [intOf]; omega
      · have HX : Hid (x = xs.getD k 0 ∧ 0 = ys.getD k 0) := ⟨hx.out, (take_none (by rw [HLy.out]; omega)).symm⟩
        have e1 : (((q + x + 0) % 4294967296 : Nat) : Int) = ((q : Int) + (x : Int)) % 4294967296 := by omega
        have e2 : (((q + x + 0) / 4294967296 : Nat) : Int) = ((q : Int) + (x : Int)) / 4294967296 := by omega
        have E1 := Lib.hid e1
        have E2 := Lib.hid e2
        clear e1 e2
        go_wp2_with (at_builtin; refine wpList_append_lim _ rfl (.tmp 47) (.tmp 50) rfl w.heap.size (.slice A0 k c0) k R rfl ?h1 ?h2 (wr.heap.size + 1) (some ⟨wr.heap.size, 0, none⟩) 1 1 [(q + x + 0) % 4294967296] rfl ?h3 ?h4 ?h5 ?h6)
        case h1 => exact HY.out _
        case h2 => exact HI.lim
        case h3 => exact one_limb wr _ (by omega) _ (by have := E1.out; omega)
        case h4 => omega
        case h5 => (first | (rw [World.size_alloc]; omega) | omega)
        case h6 =>
          intro A1 c1 w1 hl ho hg2
          have HJ := HI.step HX.out.1 HX.out.2 (t := q + x + 0) rfl (by omega) ho hg2
          clear hl ho hg2
          go_wp2
          go_roundw
          case rel => exact ⟨k + 1, (q + x + 0) / 4294967296, _, A1, c1, rfl, by have := E2.out; congr 1 <;> omega, rfl, by omega, by omega, HJ⟩
          case measure => simp [intOf]; omega
    · by_cases hkm : k < m
      · obtain ⟨ad', rfl, _, y, hy, hyl, hcy⟩ := (hb.below (HI.bel.mono hB')).at_ hkm
        have HX : Hid (0 = xs.getD k 0 ∧ y = ys.getD k 0) := ⟨(take_none (by rw [HLx.out]; omega)).symm, hy.out⟩
        have e1 : (((q + 0 + y) % 4294967296 : Nat) : Int) = ((q : Int) + (y : Int)) % 4294967296 := by omega
        have e2 : (((q + 0 + y) / 4294967296 : Nat) : Int) = ((q : Int) + (y : Int)) / 4294967296 := by omega
        have E1 := Lib.hid e1
        have E2 := Lib.hid e2
        clear e1 e2
        go_wp2_with (at_builtin; refine wpList_append_lim _ rfl (.tmp 47) (.tmp 50) rfl w.heap.size (.slice A0 k c0) k R rfl ?h1 ?h2 (wr.heap.size + 1) (some ⟨wr.heap.size, 0, none⟩) 1 1 [(q + 0 + y) % 4294967296] rfl ?h3 ?h4 ?h5 ?h6)
        case h1 => exact HY.out _
        case h2 => exact HI.lim
        case h3 => exact one_limb wr _ (by omega) _ (by have := E1.out; omega)
        case h4 => omega
        case h5 => (first | (rw [World.size_alloc]; omega) | omega)
        case h6 =>
          intro A1 c1 w1 hl ho hg2
          have HJ := HI.step HX.out.1 HX.out.2 (t := q + 0 + y) rfl (by omega) ho hg2
          clear hl ho hg2
          go_wp2
          go_roundw
          case rel => exact ⟨k + 1, (q + 0 + y) / 4294967296, _, A1, c1, rfl, by have := E2.out; congr 1 <;> omega, rfl, by omega, by omega, HJ⟩
          case measure => simp [intOf]; omega
      · rcases Nat.eq_zero_or_pos q with rfl | hq0
        · go_wp2
          go_ret
          obtain ⟨A1, c1, e, hl⟩ := HI.own.form HI.lim
          cases e
          refine ⟨R, ⟨_, _, _, rfl, hl, HI.bel⟩, ?_, by rw [HI.own.len]; exact hk⟩
          have := HI.eqn
          rw [List.take_of_length_le (by rw [HLx.out]; omega), List.take_of_length_le (by rw [HLy.out]; omega)] at this
          omega
        · obtain rfl : q = 1 := by omega
          have hkN : k ≤ N := by
            rcases Nat.lt_or_ge N k with h | h
            · have := HI.end_ (by omega); omega
            · exact h
          have HX : Hid (0 = xs.getD k 0 ∧ 0 = ys.getD k 0) := ⟨(take_none (by rw [HLx.out]; omega)).symm, (take_none (by rw [HLy.out]; omega)).symm⟩
          have e1 : (((1 + 0 + 0) % 4294967296 : Nat) : Int) = ((1 : Int)) % 4294967296 := by omega
          have e2 : (((1 + 0 + 0) / 4294967296 : Nat) : Int) = ((1 : Int)) / 4294967296 := by omega
          have E1 := Lib.hid e1
          have E2 := Lib.hid e2
          clear e1 e2
          go_wp2_with (at_builtin; refine wpList_append_lim _ rfl (.tmp 47) (.tmp 50) rfl w.heap.size (.slice A0 k c0) k R rfl ?h1 ?h2 (wr.heap.size + 1) (some ⟨wr.heap.size, 0, none⟩) 1 1 [(1 + 0 + 0) % 4294967296] rfl ?h3 ?h4 ?h5 ?h6)
          case h1 => exact HY.out _
          case h2 => exact HI.lim
          case h3 => exact one_limb wr _ (by omega) _ (by have := E1.out; omega)
          case h4 => omega
          case h5 => (first | (rw [World.size_alloc]; omega) | omega)
          case h6 =>
            intro A1 c1 w1 hl ho hg2
            have HJ := HI.step HX.out.1 HX.out.2 (t := 1 + 0 + 0) rfl (by omega) ho hg2
            clear hl ho hg2
            go_wp2
            go_roundw
            case rel => exact ⟨k + 1, (1 + 0 + 0) / 4294967296, _, A1, c1, rfl, by have := E2.out; congr 1 <;> omega, rfl, by omega, by omega, HJ⟩
            case measure => simp [intOf]; omega
end Go.Proofs.YtclmenpclkmfeaaDoor
namespace Go.Proofs.YtclmenpclkmfeaaDoor
open Go.RowKit
/-- What holds of the difference at a round's head. -/
structure MinusInv (w : World) (xs ys : List Nat) (wr : World) (k q : Nat) (R : List Nat) (A0 : Option Addr) (c0 : Nat) : Prop where
  own : Own wr w.heap.size (.slice A0 k c0) k R
  lim : Limbs R
  eqn : val (xs.take k) + q * 4294967296 ^ k = val R + val (ys.take k)
  bel : Below w.heap.size w wr
theorem MinusInv.step {w : World} {xs ys : List Nat} {wr : World} {k q : Nat} {R : List Nat} {A0 : Option Addr} {c0 : Nat} (h : MinusInv w xs ys wr k q R A0 c0) {u : Int} {x y r q' : Nat} (hx : x = xs.getD k 0) (hy : y = ys.getD k 0) (ht : x + q' * 4294967296 = r + y + q) (hr : r < 4294967296)
    {w1 : World} {A' : Option Addr} {c' : Nat} (ho : Own w1 w.heap.size (.slice A' (k + 1) c') (k + 1) (R ++ [r])) (hg : (wr.alloc (.cells #[.int .u32 u] 69)).grownBy w1 (Value.slice A0 k c0).ownBlock) :
    MinusInv w xs ys w1 (k + 1) q' (R ++ [r]) A' c' := by
  refine ⟨ho, limbs_snoc h.lim hr, ?_, (h.bel.alloc h.bel.size _).grown hg (by have := h.bel.size; simp; omega) (fun j hj => h.own.block_ge hj)⟩
  rw [val_take_succ xs, val_take_succ ys, ← hx, ← hy, val_snoc R _ k h.own.len, Nat.pow_succ]
  exact diff_step h.eqn ht
set_option maxHeartbeats 2000000 in
theorem minus_any (A A' : Option Addr) (n c m d B B' : Nat) (xs ys : List Nat) (w : World) (ha : Lim w B A n c xs) (hb : Lim w B' A' m d ys) (hB : B ≤ w.heap.size) (hB' : B' ≤ w.heap.size) (hn : n ≤ 100000) (hm : m ≤ n) (hv : val ys ≤ val xs) :
    Calls Tryd.prog 51 #[.slice A n c, .slice A' m d] w fun e w' => ∃ zs, RetSl w zs e w' ∧ val zs = val xs - val ys ∧ zs.length = n := by
  have HLx := Lib.hid ha.len
  have HLy := Lib.hid hb.len
  have HV := Lib.hid hv
  clear hv
  have E0 := Own.empty w w.heap.size (Nat.le_refl _)
  go_enter Tryd.func51, Tryd.ntmps51
  go_wp2
  go_loopw [5, 6, 7] (fun o cr i wr => ∃ (k q : Nat) (R : List Nat) (A0 : Option Addr) (c0 : Nat), o = .slice A0 k c0 ∧ cr = .int .i64 q ∧ i = .int .i64 k ∧ q ≤ 1 ∧ k ≤ n ∧ MinusInv w xs ys wr k q R A0 c0) (fun _ _ i _ => n - (intOf i).toNat)
  case atStart => exact ⟨0, 0, [], _, _, rfl, rfl, rfl, by omega, by omega, E0, (fun x hx => by simp at hx), by simp [val], (Below.refl _ _).alloc (Nat.le_refl _) _⟩
  case round =>
    obtain ⟨k, q, R, A0, c0, rfl, rfl, rfl, hq, hk, HI⟩ := hrel
    have hbs := HI.bel.size
    have hY2 : ∀ u : Int, Own (wr.alloc (.cells #[.int .u32 u] 69)) w.heap.size (.slice A0 k c0) k R := fun u => HI.own.keep ((Below.refl _ _).alloc (Nat.le_refl _) _)
    have HY := Lib.hid hY2
    clear hY2
    by_cases hkn : k < n
    · obtain ⟨ad, rfl, _, x, hx, hxl, hcx⟩ := (ha.below (HI.bel.mono hB)).at_ hkn
      by_cases hkm : k < m
      · obtain ⟨ad', rfl, _, y, hy, hyl, hcy⟩ := (hb.below (HI.bel.mono hB')).at_ hkm
        by_cases hng : (x : Int) - q - y < 0
        · have HX : Hid (x = xs.getD k 0 ∧ y = ys.getD k 0) := ⟨hx.out, hy.out⟩
          go_wp2_with (at_builtin; refine wpList_append_lim _ rfl (.tmp 38) (.tmp 41) rfl w.heap.size (.slice A0 k c0) k R rfl ?h1 ?h2 (wr.heap.size + 1) (some ⟨wr.heap.size, 0, none⟩) 1 1 [x + 4294967296 - q - y] rfl ?h3 ?h4 ?h5 ?h6)
          case h1 => exact HY.out _
          case h2 => exact HI.lim
          case h3 => exact one_limb wr _ (by omega) _ (by omega)
          case h4 => omega
          case h5 => (first | (rw [World.size_alloc]; omega) | omega)
          case h6 =>
            intro A1 c1 w1 hl ho hg2
            have HJ := HI.step HX.out.1 HX.out.2 (q' := 1) (by omega) (by omega) ho hg2
            clear hl ho hg2
            go_wp2
            go_roundw
            case rel => exact ⟨k + 1, 1, _, A1, c1, rfl, rfl, rfl, by omega, by omega, HJ⟩
            case measure => simp [intOf]; omega
        · have HX : Hid (x = xs.getD k 0 ∧ y = ys.getD k 0) := ⟨hx.out, hy.out⟩
          go_wp2_with (at_builtin; refine wpList_append_lim _ rfl (.tmp 38) (.tmp 41) rfl w.heap.size (.slice A0 k c0) k R rfl ?h1 ?h2 (wr.heap.size + 1) (some ⟨wr.heap.size, 0, none⟩) 1 1 [x - q - y] rfl ?h3 ?h4 ?h5 ?h6)
          case h1 => exact HY.out _
          case h2 => exact HI.lim
          case h3 => exact one_limb wr _ (by omega) _ (by omega)
          case h4 => omega
          case h5 => (first | (rw [World.size_alloc]; omega) | omega)
          case h6 =>
            intro A1 c1 w1 hl ho hg2
            have HJ := HI.step HX.out.1 HX.out.2 (q' := 0) (by omega) (by omega) ho hg2
            clear hl ho hg2
            go_wp2
            go_roundw
            case rel => exact ⟨k + 1, 0, _, A1, c1, rfl, rfl, rfl, by omega, by omega, HJ⟩
            case measure => simp [intOf]; omega
      · by_cases hng : (x : Int) - q < 0
        · have HX : Hid (x = xs.getD k 0 ∧ 0 = ys.getD k 0) := ⟨hx.out, (take_none (by rw [HLy.out]; omega)).symm⟩
          go_wp2_with (at_builtin; refine wpList_append_lim _ rfl (.tmp 38) (.tmp 41) rfl w.heap.size (.slice A0 k c0) k R rfl ?h1 ?h2 (wr.heap.size + 1) (some ⟨wr.heap.size, 0, none⟩) 1 1 [x + 4294967296 - q - 0] rfl ?h3 ?h4 ?h5 ?h6)
          case h1 => exact HY.out _
          case h2 => exact HI.lim
          case h3 => exact one_limb wr _ (by omega) _ (by omega)
          case h4 => omega
          case h5 => (first | (rw [World.size_alloc]; omega) | omega)
          case h6 =>
            intro A1 c1 w1 hl ho hg2
            have HJ := HI.step HX.out.1 HX.out.2 (q' := 1) (by omega) (by omega) ho hg2
            clear hl ho hg2
            go_wp2
            go_roundw
            case rel => exact ⟨k + 1, 1, _, A1, c1, rfl, rfl, rfl, by omega, by omega, HJ⟩
            case measure => simp [intOf]; omega
        · have HX : Hid (x = xs.getD k 0 ∧ 0 = ys.getD k 0) := ⟨hx.out, (take_none (by rw [HLy.out]; omega)).symm⟩
          go_wp2_with (at_builtin; refine wpList_append_lim _ rfl (.tmp 38) (.tmp 41) rfl w.heap.size (.slice A0 k c0) k R rfl ?h1 ?h2 (wr.heap.size + 1) (some ⟨wr.heap.size, 0, none⟩) 1 1 [x - q - 0] rfl ?h3 ?h4 ?h5 ?h6)
          case h1 => exact HY.out _
          case h2 => exact HI.lim
          case h3 => exact one_limb wr _ (by omega) _ (by omega)
          case h4 => omega
          case h5 => (first | (rw [World.size_alloc]; omega) | omega)
          case h6 =>
            intro A1 c1 w1 hl ho hg2
            have HJ := HI.step HX.out.1 HX.out.2 (q' := 0) (by omega) (by omega) ho hg2
            clear hl ho hg2
            go_wp2
            go_roundw
            case rel => exact ⟨k + 1, 0, _, A1, c1, rfl, rfl, rfl, by omega, by omega, HJ⟩
            case measure => simp [intOf]; omega
    · obtain rfl : k = n := by omega
      go_wp2
      go_ret
      obtain ⟨A1, c1, e, hl⟩ := HI.own.form HI.lim
      cases e
      refine ⟨R, ⟨_, _, _, rfl, hl, HI.bel⟩, ?_, HI.own.len⟩
      have h1 := HI.eqn
      rw [List.take_of_length_le (by rw [HLx.out]; omega), List.take_of_length_le (by rw [HLy.out]; omega)] at h1
      have h2 := val_lt HI.lim
      rw [HI.own.len] at h2
      have h3 := HV.out
      rcases Nat.eq_zero_or_pos q with rfl | hq0
      · omega
      · obtain rfl : q = 1 := by omega
        omega
end Go.Proofs.YtclmenpclkmfeaaDoor
namespace Go.Proofs.YtclmenpclkmfeaaDoor
open Go.RowKit
theorem made_val (neg : Bool) (A : Option Addr) (n c v : Nat) (z : Int) (zs : List Nat) (w : World) (ha : Lim w w.heap.size A n c zs) (hn : zs.length ≤ 1000000) (hv : val zs = v) (hz : zOf neg v = z) :
    Calls Tryd.prog 48 #[.slice A n c, .bool neg] w (RetInt w z) := by
  subst hv hz
  exact Made_any neg A n c w.heap.size zs w ha (Nat.le_refl _) (by rw [← ha.len]; exact hn)
set_option maxHeartbeats 1000000 in
theorem radd_same (neg : Bool) (A A' : Option Addr) (n c m d : Nat) (a b : Int) (w : World) (ha : IsInt w neg A n c a) (hb : IsInt w neg A' m d b) (hn : n ≤ 100000) (hm : m ≤ 100000) :
    Calls Tryd.prog 15 #[.agg #[.bool neg, .slice A n c], .agg #[.bool neg, .slice A' m d]] w (RetInt w (a + b)) := by
  have H1 := fun W (hW : Below w.heap.size w W) => plus_any A A' n c m d w.heap.size w.heap.size 100000 (digs a.natAbs) (digs b.natAbs) W (ha.lim.below hW) (hb.lim.below hW) hW.size hW.size hn hm (Nat.le_refl _)
  have e1 : zOf neg (a.natAbs + b.natAbs) = a + b := by
    have h1 := ha.sign
    have h2 := hb.sign
    unfold zOf
    cases neg <;> simp at h1 h2 ⊢ <;> omega
  have H2 := fun A n c zs (W : World) (ha : Lim W W.heap.size A n c zs) (hl : zs.length ≤ 100001) (hv : val zs = val (digs a.natAbs) + val (digs b.natAbs)) => made_val neg A n c (a.natAbs + b.natAbs) (a + b) zs W ha (by omega) (by rw [hv, val_digs, val_digs]) e1
  have H1' := Lib.hid H1
  have H2' := Lib.hid H2
  clear H1 H2 e1
  obtain ⟨HB, P0, P1, R0⟩ := frame21 w (.bool neg) (.slice A n c) (.bool neg) (.slice A' m d)
  have HS : Hid (∀ W, Below (w.heap.size + 1 + 1) (((w.alloc (.cells #[.bool neg, .slice A n c] 28)).alloc (.cells #[.bool neg, .slice A' m d] 28)).alloc (.cells #[.bool false, .slice none 0 0] 28)) W → W.cell? ⟨w.heap.size, 0, none⟩ = some (.bool neg) ∧ W.cell? ⟨w.heap.size, 1, none⟩ = some (.slice A n c) ∧ W.cell? ⟨w.heap.size + 1, 0, none⟩ = some (.bool neg) ∧ W.cell? ⟨w.heap.size + 1, 1, none⟩ = some (.slice A' m d)) :=
    fun W hW => ⟨(P0.below hW (by omega)).1, (P0.below hW (by omega)).2.1, (P1.below hW (by omega)).1, (P1.below hW (by omega)).2.1⟩
  go_enter Tryd.func15, Tryd.ntmps15
  go_wp2_with fail
  go_region_held3 (fun W => W.cell? ⟨w.heap.size, 0, none⟩ = some (.bool neg) ∧ W.cell? ⟨w.heap.size, 1, none⟩ = some (.slice A n c) ∧ W.cell? ⟨w.heap.size + 1, 0, none⟩ = some (.bool neg) ∧ W.cell? ⟨w.heap.size + 1, 1, none⟩ = some (.slice A' m d)) (exact HS.out _ (by first | exact Below.refl _ _ | exact (Below.refl _ _).drew | exact Below.drewN' (Below.refl _ _) _ | exact (Below.drewN' (Below.refl _ _) _).drew | exact D1.mono (by omega) | exact D2.mono (by omega) | exact ((D2.mono (by omega)).setCell (by simp) _).setCell (by simp) _))
    (first
      | (go_at_call 49; refine (H1'.out _ (by first | exact HB | exact HB.drew | exact Below.drewN' HB _ | exact (Below.drewN' HB _).drew)).mono ?_; rintro e w1 ⟨zs, ⟨A1, n1, c1, rfl, hl1, hb1⟩, hv1, hn1⟩; have D1 := Below.trans (by first | exact Below.refl _ _ | exact (Below.refl _ _).drew | exact Below.drewN' (Below.refl _ _) _ | exact (Below.drewN' (Below.refl _ _) _).drew : Below (w.heap.size + 1 + 1 + 1) (((w.alloc (.cells #[.bool neg, .slice A n c] 28)).alloc (.cells #[.bool neg, .slice A' m d] 28)).alloc (.cells #[.bool false, .slice none 0 0] 28)) _) (hb1.mono (by simp)); have HV1 := Lib.hid hv1; clear hv1)
      | (go_at_call 48; refine (H2'.out _ _ _ _ _ hl1 hn1 HV1.out).mono ?_; rintro e w2 ⟨neg2, A2, n2, c2, rfl, hi2, hb2⟩; have D2 := D1.trans (hb2.mono (by have := D1.size; simp at this; omega)); obtain ⟨k0, k1, f0, f1, _⟩ := R0.below D2 (by omega)))
  go_wp2
  exact bodyPost_ret (v := .agg #[.bool neg2, .slice A2 n2 c2]) (by simp [results, Tryd.results15, go_sem, k0, k1]) rfl
    (RetInt.stored hi2 (HB.trans (D1.mono (by omega))) (hb2.mono (by omega)) (by omega) k0 k1 rfl rfl)
set_option maxHeartbeats 1000000 in
theorem radd_lt (neg neg' : Bool) (A A' : Option Addr) (n c m d : Nat) (a b : Int) (w : World) (ha : IsInt w neg A n c a) (hb : IsInt w neg' A' m d b) (_hn : n ≤ 100000) (hm : m ≤ 100000) (hne : (neg == neg') = false) (hlt : a.natAbs < b.natAbs) :
    Calls Tryd.prog 15 #[.agg #[.bool neg, .slice A n c], .agg #[.bool neg', .slice A' m d]] w (RetInt w (a + b)) := by
  have H0 := fun W (hW : Below w.heap.size w W) => less_any A A' n c m d _ _ _ _ W (ha.lim.below hW) (hb.lim.below hW)
  rw [lessV_digs, decide_eq_true hlt] at H0
  have hlen : n ≤ m := by
    rw [← hb.lim.len, ← ha.lim.len]
    exact digs_len_mono (by omega)
  have H1 := fun W (hW : Below w.heap.size w W) => minus_any A' A m d n c w.heap.size w.heap.size (digs b.natAbs) (digs a.natAbs) W (hb.lim.below hW) (ha.lim.below hW) hW.size hW.size (by omega) hlen (by rw [val_digs, val_digs]; omega)
  have e1 : zOf neg' (b.natAbs - a.natAbs) = a + b := by
    have h1 := ha.sign
    have h2 := hb.sign
    unfold zOf
    cases neg <;> cases neg' <;> simp at h1 h2 hne ⊢ <;> omega
  have hlen2 : (digs b.natAbs).length ≤ 100000 := by rw [hb.lim.len]; omega
  have H2 := fun A2 n2 c2 zs (W : World) (ha : Lim W W.heap.size A2 n2 c2 zs) (hl : zs.length = m) (hv : val zs = val (digs b.natAbs) - val (digs a.natAbs)) => made_val neg' A2 n2 c2 (b.natAbs - a.natAbs) (a + b) zs W ha (by omega) (by rw [hv, val_digs, val_digs]) e1
  have H0' := Lib.hid H0
  have H1' := Lib.hid H1
  have H2' := Lib.hid H2
  clear H0 H1 H2 e1 hlt hlen hlen2
  obtain ⟨HB, P0, P1, R0⟩ := frame21 w (.bool neg) (.slice A n c) (.bool neg') (.slice A' m d)
  have HS : Hid (∀ W, Below (w.heap.size + 1 + 1) (((w.alloc (.cells #[.bool neg, .slice A n c] 28)).alloc (.cells #[.bool neg', .slice A' m d] 28)).alloc (.cells #[.bool false, .slice none 0 0] 28)) W → W.cell? ⟨w.heap.size, 0, none⟩ = some (.bool neg) ∧ W.cell? ⟨w.heap.size, 1, none⟩ = some (.slice A n c) ∧ W.cell? ⟨w.heap.size + 1, 0, none⟩ = some (.bool neg') ∧ W.cell? ⟨w.heap.size + 1, 1, none⟩ = some (.slice A' m d)) :=
    fun W hW => ⟨(P0.below hW (by omega)).1, (P0.below hW (by omega)).2.1, (P1.below hW (by omega)).1, (P1.below hW (by omega)).2.1⟩
  go_enter Tryd.func15, Tryd.ntmps15
  go_wp2_with fail
  refine (H0'.out _ HB).mono ?_
  rintro e wq ⟨rfl, hdq⟩
  obtain ⟨q, rfl⟩ := hdq
  go_wp2_with fail
  go_region_held3 (fun W => W.cell? ⟨w.heap.size, 0, none⟩ = some (.bool neg) ∧ W.cell? ⟨w.heap.size, 1, none⟩ = some (.slice A n c) ∧ W.cell? ⟨w.heap.size + 1, 0, none⟩ = some (.bool neg') ∧ W.cell? ⟨w.heap.size + 1, 1, none⟩ = some (.slice A' m d)) (exact HS.out _ (by first | exact Below.refl _ _ | exact (Below.refl _ _).drew | exact Below.drewN' (Below.refl _ _) _ | exact (Below.drewN' (Below.refl _ _) _).drew | exact D1.mono (by omega) | exact D2.mono (by omega) | exact ((D2.mono (by omega)).setCell (by simp) _).setCell (by simp) _))
    (first
      | (go_at_call 51; refine (H1'.out _ (by first | exact HB | exact HB.drew | exact Below.drewN' HB _ | exact (Below.drewN' HB _).drew)).mono ?_; rintro e w1 ⟨zs, ⟨A1, n1, c1, rfl, hl1, hb1⟩, hv1, hn1⟩; have D1 := Below.trans (by first | exact Below.refl _ _ | exact (Below.refl _ _).drew | exact Below.drewN' (Below.refl _ _) _ | exact (Below.drewN' (Below.refl _ _) _).drew : Below (w.heap.size + 1 + 1 + 1) (((w.alloc (.cells #[.bool neg, .slice A n c] 28)).alloc (.cells #[.bool neg', .slice A' m d] 28)).alloc (.cells #[.bool false, .slice none 0 0] 28)) _) (hb1.mono (by simp)); have HV1 := Lib.hid hv1; clear hv1)
      | (go_at_call 48; refine (H2'.out _ _ _ _ _ hl1 hn1 HV1.out).mono ?_; rintro e w2 ⟨neg2, A2, n2, c2, rfl, hi2, hb2⟩; have D2 := D1.trans (hb2.mono (by have := D1.size; simp at this; omega)); obtain ⟨k0, k1, f0, f1, _⟩ := R0.below D2 (by omega)))
  go_wp2
  exact bodyPost_ret (v := .agg #[.bool neg2, .slice A2 n2 c2]) (by simp [results, Tryd.results15, go_sem, k0, k1]) rfl
    (RetInt.stored hi2 (HB.trans (D1.mono (by omega))) (hb2.mono (by omega)) (by omega) k0 k1 rfl rfl)
set_option maxHeartbeats 1000000 in
theorem radd_ge (neg neg' : Bool) (A A' : Option Addr) (n c m d : Nat) (a b : Int) (w : World) (ha : IsInt w neg A n c a) (hb : IsInt w neg' A' m d b) (hn : n ≤ 100000) (_hm : m ≤ 100000) (hne : (neg == neg') = false) (hlt : ¬ a.natAbs < b.natAbs) :
    Calls Tryd.prog 15 #[.agg #[.bool neg, .slice A n c], .agg #[.bool neg', .slice A' m d]] w (RetInt w (a + b)) := by
  have H0 := fun W (hW : Below w.heap.size w W) => less_any A A' n c m d _ _ _ _ W (ha.lim.below hW) (hb.lim.below hW)
  rw [lessV_digs, decide_eq_false hlt] at H0
  have hlen : m ≤ n := by
    rw [← ha.lim.len, ← hb.lim.len]
    exact digs_len_mono (by omega)
  have H1 := fun W (hW : Below w.heap.size w W) => minus_any A A' n c m d w.heap.size w.heap.size (digs a.natAbs) (digs b.natAbs) W (ha.lim.below hW) (hb.lim.below hW) hW.size hW.size (by omega) hlen (by rw [val_digs, val_digs]; omega)
  have e1 : zOf neg (a.natAbs - b.natAbs) = a + b := by
    have h1 := ha.sign
    have h2 := hb.sign
    unfold zOf
    cases neg <;> cases neg' <;> simp at h1 h2 hne ⊢ <;> omega
  have hlen2 : (digs a.natAbs).length ≤ 100000 := by rw [ha.lim.len]; omega
  have H2 := fun A2 n2 c2 zs (W : World) (ha : Lim W W.heap.size A2 n2 c2 zs) (hl : zs.length = n) (hv : val zs = val (digs a.natAbs) - val (digs b.natAbs)) => made_val neg A2 n2 c2 (a.natAbs - b.natAbs) (a + b) zs W ha (by omega) (by rw [hv, val_digs, val_digs]) e1
  have H0' := Lib.hid H0
  have H1' := Lib.hid H1
  have H2' := Lib.hid H2
  clear H0 H1 H2 e1 hlt hlen hlen2
  obtain ⟨HB, P0, P1, R0⟩ := frame21 w (.bool neg) (.slice A n c) (.bool neg') (.slice A' m d)
  have HS : Hid (∀ W, Below (w.heap.size + 1 + 1) (((w.alloc (.cells #[.bool neg, .slice A n c] 28)).alloc (.cells #[.bool neg', .slice A' m d] 28)).alloc (.cells #[.bool false, .slice none 0 0] 28)) W → W.cell? ⟨w.heap.size, 0, none⟩ = some (.bool neg) ∧ W.cell? ⟨w.heap.size, 1, none⟩ = some (.slice A n c) ∧ W.cell? ⟨w.heap.size + 1, 0, none⟩ = some (.bool neg') ∧ W.cell? ⟨w.heap.size + 1, 1, none⟩ = some (.slice A' m d)) :=
    fun W hW => ⟨(P0.below hW (by omega)).1, (P0.below hW (by omega)).2.1, (P1.below hW (by omega)).1, (P1.below hW (by omega)).2.1⟩
  go_enter Tryd.func15, Tryd.ntmps15
  go_wp2_with fail
  refine (H0'.out _ HB).mono ?_
  rintro e wq ⟨rfl, hdq⟩
  obtain ⟨q, rfl⟩ := hdq
  go_wp2_with fail
  go_region_held3 (fun W => W.cell? ⟨w.heap.size, 0, none⟩ = some (.bool neg) ∧ W.cell? ⟨w.heap.size, 1, none⟩ = some (.slice A n c) ∧ W.cell? ⟨w.heap.size + 1, 0, none⟩ = some (.bool neg') ∧ W.cell? ⟨w.heap.size + 1, 1, none⟩ = some (.slice A' m d)) (exact HS.out _ (by first | exact Below.refl _ _ | exact (Below.refl _ _).drew | exact Below.drewN' (Below.refl _ _) _ | exact (Below.drewN' (Below.refl _ _) _).drew | exact D1.mono (by omega) | exact D2.mono (by omega) | exact ((D2.mono (by omega)).setCell (by simp) _).setCell (by simp) _))
    (first
      | (go_at_call 51; refine (H1'.out _ (by first | exact HB | exact HB.drew | exact Below.drewN' HB _ | exact (Below.drewN' HB _).drew)).mono ?_; rintro e w1 ⟨zs, ⟨A1, n1, c1, rfl, hl1, hb1⟩, hv1, hn1⟩; have D1 := Below.trans (by first | exact Below.refl _ _ | exact (Below.refl _ _).drew | exact Below.drewN' (Below.refl _ _) _ | exact (Below.drewN' (Below.refl _ _) _).drew : Below (w.heap.size + 1 + 1 + 1) (((w.alloc (.cells #[.bool neg, .slice A n c] 28)).alloc (.cells #[.bool neg', .slice A' m d] 28)).alloc (.cells #[.bool false, .slice none 0 0] 28)) _) (hb1.mono (by simp)); have HV1 := Lib.hid hv1; clear hv1)
      | (go_at_call 48; refine (H2'.out _ _ _ _ _ hl1 hn1 HV1.out).mono ?_; rintro e w2 ⟨neg2, A2, n2, c2, rfl, hi2, hb2⟩; have D2 := D1.trans (hb2.mono (by have := D1.size; simp at this; omega)); obtain ⟨k0, k1, f0, f1, _⟩ := R0.below D2 (by omega)))
  go_wp2
  exact bodyPost_ret (v := .agg #[.bool neg2, .slice A2 n2 c2]) (by simp [results, Tryd.results15, go_sem, k0, k1]) rfl
    (RetInt.stored hi2 (HB.trans (D1.mono (by omega))) (hb2.mono (by omega)) (by omega) k0 k1 rfl rfl)
theorem radd_any (neg neg' : Bool) (A A' : Option Addr) (n c m d : Nat) (a b : Int) (w : World) (ha : IsInt w neg A n c a) (hb : IsInt w neg' A' m d b) (hn : n ≤ 100000) (hm : m ≤ 100000) :
    Calls Tryd.prog 15 #[.agg #[.bool neg, .slice A n c], .agg #[.bool neg', .slice A' m d]] w (RetInt w (a + b)) := by
  cases h : (neg == neg')
  · by_cases hlt : a.natAbs < b.natAbs
    · exact radd_lt neg neg' A A' n c m d a b w ha hb hn hm h hlt
    · exact radd_ge neg neg' A A' n c m d a b w ha hb hn hm h hlt
  · obtain rfl : neg = neg' := by simpa using h
    exact radd_same neg A A' n c m d a b w ha hb hn hm
end Go.Proofs.YtclmenpclkmfeaaDoor
