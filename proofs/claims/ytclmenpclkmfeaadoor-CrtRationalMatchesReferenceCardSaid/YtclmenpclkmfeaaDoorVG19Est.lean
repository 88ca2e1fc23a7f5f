/- Contract of torsionref01.estimate. Contract of torsionref01.divide for a divisor of more than one limb. Sizes of fractions. Contract of crt.Consistent. Contract of crt.Product for lists of at most two residues. -/
import Derived.Test.YtclmenpclkmfeaaDoorVG3Num2
import Derived.Test.YtclmenpclkmfeaaDoorVG18Sz
import Derived.Test.YtclmenpclkmfeaaDoorVG7AddB
import Derived.Test.YtclmenpclkmfeaaDoorVG2Prod
import Derived.Test.YtclmenpclkmfeaaDoorVG1CrtMap
import Derived.Deep.DeepCutAuto
import Derived.Test.YtclmenpclkmfeaaDoorVG5MadeL
import Derived.Test.YtclmenpclkmfeaaDoorVG15DivModW
namespace Go.Proofs.YtclmenpclkmfeaaDoor
open Go.RowKit
/-- A block of limbs of the call's own is an owned row. -/
theorem Row.own {w : World} {g : Nat} {xs : List Nat} (h : Row w g xs) {base n : Nat} (hb : base ≤ g) (hl : xs.length = n) (hn : n ≤ 1000000) : Own w base (.slice (some ⟨g, 0, none⟩) n n) n xs :=
  ⟨by rw [ints_len, hl, Nat.mul_one], .inr ⟨g, n, (ints xs).toArray, rfl, hb, h, Nat.le_refl _, by unfold maxLen; omega, by simp [ints, hl], by rw [Nat.mul_one, List.take_of_length_le (by simp [ints, hl])]⟩⟩
theorem two_limbs (wr : World) (g : Nat) (hg : wr.heap.size = g) (a b : Nat) (ha : a < 4294967296) (hb : b < 4294967296) (u v : Int) (hu : u = (a : Int)) (hv : v = (b : Int)) :
    Lim (wr.alloc (.cells #[.int .u32 u, .int .u32 v] 69)) (g + 1) (some ⟨g, 0, none⟩) 2 2 [a, b] := by
  subst hu hv hg
  have := (row_new wr [a, b] _ rfl).len_lim (by intro z hz; simp at hz; omega) 2 rfl (by omega)
  rwa [World.size_alloc] at this
theorem val_two' (k t : Nat) : val (List.replicate k 0 ++ [t % 4294967296, t / 4294967296]) = t * 4294967296 ^ k := by
  rw [val_append, val_zeros, List.length_replicate, Nat.zero_add, Nat.mul_comm]
  congr 1
  simp only [val]; omega
theorem made_row (w : World) (o : Obj) (q k : Nat) : Row (((w.alloc o).drewN q).alloc (.cells (madeCells #[.int .u32 0] k) 69)) (w.heap.size + 1) (List.replicate k 0) := by
  have h := Row.made ((w.alloc o).drewN q) k
  rwa [show ((w.alloc o).drewN q).heap.size = w.heap.size + 1 by simp] at h
/-- An estimate of the quotient comes back. -/
def RetEst (w : World) (r d : Nat) (e : Ending) (w' : World) : Prop := ∃ s : Nat, RetInt w (s : Int) e w' ∧ 1 ≤ s ∧ s * d ≤ r
set_option maxRecDepth 100000 in
set_option maxHeartbeats 2000000 in
theorem est_eq (A A' : Option Addr) (m c d r dd : Nat) (w : World) (ha : Lim w w.heap.size A (m + 1) c (digs r)) (hb : Lim w w.heap.size A' (m + 1) d (digs dd)) (hn : m ≤ 100000) (hle : dd ≤ r) :
    Calls Tryd.prog 76 #[.slice A (m + 1) c, .slice A' (m + 1) d] w (RetEst w r dd) := by
  have HE := Lib.hid (est_zero ha.len hb.len hle)
  have HB : Below w.heap.size w (w.alloc (.cells #[.bool false, .slice none 0 0] 28)) := (Below.refl _ _).alloc (Nat.le_refl _) _
  have R0 := Slot2.new w (.bool false) (.slice none 0 0) 28
  obtain ⟨ad, rfl, _, x, hx, hxl, hcx⟩ := (ha.below HB).at_ (k := m) (by omega)
  obtain ⟨ad', rfl, _, y, hy, hyl, hcy⟩ := (hb.below HB).at_ (k := m) (by omega)
  rw [← hx.out, ← hy.out] at HE
  have hmc := ha.cap
  have hmd := hb.cap
  obtain ⟨t, ht⟩ : ∃ t, t = x / (y + 1) := ⟨_, rfl⟩
  have htl : t < 4294967296 := by rw [ht]; exact Nat.lt_of_le_of_lt (Nat.div_le_self _ _) hxl
  have e1 : (x : Int) / ((y : Int) + 1) = (t : Int) := by rw [ht, Int.natCast_ediv]; rfl
  rw [← ht] at HE
  clear ht ha hb
  have b1 : ((y : Int) + 1 == 0) = false := by simp; omega
  have i1 : ((m + 1 : Nat) : Int) - 1 = (m : Int) := by omega
  have i2 : ((m + 1 : Nat) : Int) - ((m + 1 : Nat) : Int) = 0 := by omega
  rcases Nat.lt_or_ge 1 t with h1 | h1
  · go_enter Tryd.func76, Tryd.ntmps76
    go_wp2
    go_quiet (fail)
    go_wp2_with fail
    try rw [show max (1 : Int) (t : Int) = (t : Int) by omega]
    refine (rof_any (t : Int) _ (by omega) (by omega)).mono ?_
    rintro e w2 ⟨g2, A2, n2, c2, rfl, hi2, hb2⟩
    obtain ⟨k0, k1, _, _, _⟩ := (R0.drewN nq).after hb2
    go_wp2
    exact bodyPost_ret (v := .agg #[.bool g2, .slice A2 n2 c2]) (by simp [results, Tryd.results76, go_sem, k0, k1]) rfl
      ⟨_, RetInt.stored hi2 (Below.drewN' HB _) hb2 (Nat.le_refl _) k0 k1 rfl rfl, by omega, by have := HE.out; rwa [Nat.max_eq_right (by omega)] at this⟩
  · go_enter Tryd.func76, Tryd.ntmps76
    go_wp2
    go_quiet (fail)
    go_wp2_with fail
    try rw [show max (1 : Int) (t : Int) = 1 by omega]
    refine (rof_any 1 _ (by omega) (by omega)).mono ?_
    rintro e w2 ⟨g2, A2, n2, c2, rfl, hi2, hb2⟩
    obtain ⟨k0, k1, _, _, _⟩ := (R0.drewN nq).after hb2
    go_wp2
    exact bodyPost_ret (v := .agg #[.bool g2, .slice A2 n2 c2]) (by simp [results, Tryd.results76, go_sem, k0, k1]) rfl
      ⟨1, RetInt.stored hi2 (Below.drewN' HB _) hb2 (Nat.le_refl _) k0 k1 rfl rfl, by omega, by rw [Nat.one_mul]; exact hle⟩
set_option maxRecDepth 100000 in
set_option maxHeartbeats 2000000 in
theorem est_gt (A A' : Option Addr) (m k c d r dd : Nat) (w : World) (ha : Lim w w.heap.size A (m + 1 + (k + 1)) c (digs r)) (hb : Lim w w.heap.size A' (m + 1) d (digs dd)) (hn : m + k ≤ 100000) :
    Calls Tryd.prog 76 #[.slice A (m + 1 + (k + 1)) c, .slice A' (m + 1) d] w (RetEst w r dd) := by
  have HE := Lib.hid (est_more ha.len hb.len)
  have HB : Below w.heap.size w (w.alloc (.cells #[.bool false, .slice none 0 0] 28)) := (Below.refl _ _).alloc (Nat.le_refl _) _
  have R0 := Slot2.new w (.bool false) (.slice none 0 0) 28
  obtain ⟨ad', e', _, y, hy, hyl, hcy⟩ := (hb.below HB).at_ (k := m) (by omega)
  obtain ⟨ad, e, _, x, hx, hxl, hcx⟩ := (ha.below HB).at_ (k := m + k + 1) (by omega)
  subst e e'
  obtain ⟨_, e, _, x2, hx2, hxl2, hcx2⟩ := (ha.below HB).at_ (k := m + k) (by omega)
  obtain rfl := Option.some.inj e
  have hcx3 := hcx
  rw [show ad.add (m + k + 1) = ⟨ad.block, ad.off + (m + k + 1), none⟩ by unfold Addr.add; exact if_neg (by omega)] at hcx3
  rw [← hx.out, ← hy.out, ← hx2.out] at HE
  have hmc := ha.cap
  have hmd := hb.cap
  obtain ⟨t, ht⟩ : ∃ t, t = (x * 4294967296 + x2) / (y + 1) := ⟨_, rfl⟩
  have htl : t < 18446744073709551616 := by rw [ht]; exact Nat.lt_of_le_of_lt (Nat.div_le_self _ _) (by omega)
  have e1 : ((x : Int) * 4294967296 + x2) / ((y : Int) + 1) = (t : Int) := by rw [ht, Int.natCast_ediv, Int.natCast_add, Int.natCast_mul]; rfl
  rw [← ht] at HE
  clear ht ha hb
  have b1 : ((y : Int) + 1 == 0) = false := by simp; omega
  have b2 : ((m : Int) + 1 + (k + 1) - (m + 1) == 0) = false := by simp; omega
  have b3 : ((k : Int) + 1 == 0) = false := by simp; omega
  have i1 : (m : Int) + 1 + (k + 1) - (m + 1) = k + 1 := by omega
  have i2 : (m : Int) + 1 + (k + 1) - 1 = m + k + 1 := by omega
  have i3 : (m : Int) + 1 + (k + 1) - 2 = m + k := by omega
  have j1 : ((m : Int) + k + 1).toNat = m + k + 1 := by omega
  have j2 : ((m : Int) + k).toNat = m + k := by omega
  go_enter Tryd.func76, Tryd.ntmps76
  go_wp2
  have w0 : IntKind.i64.wrap ((m : Int) + k + 1) = (m : Int) + k + 1 := by rw [IntKind.wrap_i64]; omega
  have w1 : IntKind.i64.wrap ((m : Int) + k) = (m : Int) + k := by rw [IntKind.wrap_i64]; omega
  have w2 : IntKind.i64.wrap ((k : Int) + 1) = (k : Int) + 1 := by rw [IntKind.wrap_i64]; omega
  have n0 : (0 : Int) ≤ (m : Int) + k + 1 := by omega
  have n1 : (m : Int) + k + 1 < (m : Int) + 1 + (k + 1) := by omega
  have n2 : (0 : Int) ≤ (m : Int) + k := by omega
  have n3 : (m : Int) + k < (m : Int) + 1 + (k + 1) := by omega
  have w3 : IntKind.u64.wrap ((x : Int) * 4294967296) = (x : Int) * 4294967296 := by rw [IntKind.wrap_u64]; omega
  have w4 : IntKind.u64.wrap ((x : Int) * 4294967296 + x2) = (x : Int) * 4294967296 + x2 := by rw [IntKind.wrap_u64]; omega
  go_quiet (fail)
  go_wp2
  go_quiet (fail)
  clear w0 w1 w2 w3 w4
  simp only [e1]
  have hmk : ∀ W : World, (Instr.makeSlice 26 (.int .i64 (k : Int)) (.int .i64 (k : Int))).run Tryd.prog W =
    .ok (.slice (some ⟨W.heap.size, 0, none⟩) k k) (W.alloc (.cells (madeCells #[.int .u32 0] k) 69)) := fun W => make_u32 k (by omega) W
  go_wp2_with (at_builtin; refine wpList_append_lim _ rfl (.tmp 57) (.tmp 63) rfl (w.heap.size + 1) (.slice (some ⟨w.heap.size + 1, 0, none⟩) k k) k (List.replicate k 0) rfl ?h1 ?h2 (w.heap.size + 1 + 1 + 1) (some ⟨w.heap.size + 1 + 1, 0, none⟩) 2 2 [t % 4294967296, t / 4294967296] rfl ?h3 ?h4 ?h5 ?h6)
  case h1 => exact ((made_row _ _ _ _).own (Nat.le_refl _) (by simp) (by omega)).keep ((Below.refl _ _).alloc (Nat.le_refl _) _)
  case h2 => exact limbs_zeros _
  case h3 => exact two_limbs _ _ (by simp) _ _ (by omega) (by omega) _ _ (by omega) (by omega)
  case h4 => omega
  case h5 => simp
  case h6 =>
    intro A1 c1 w1 hl ho hg
    have RG := (((R0.drewN _).alloc _).alloc _).grown hg (by simp [Value.ownBlock])
    have B1 : Below w.heap.size w w1 := (((Below.drewN' HB _).alloc (by simp) _).alloc (by simp; omega) _).grown hg (by simp; omega) (fun j hj => by simp [Value.ownBlock] at hj; omega)
    clear hg ho
    go_wp2_with fail
    refine (made_val false _ _ _ _ ((t * 4294967296 ^ k : Nat) : Int) _ _ hl (by simp; omega) (val_two' _ _) rfl).mono ?_
    rintro e w2 ⟨g2, A2, n2, c2, rfl, hi2, hb2⟩
    obtain ⟨k0, k1, _, _, _⟩ := RG.after hb2
    go_wp2
    exact bodyPost_ret (v := .agg #[.bool g2, .slice A2 n2 c2]) (by simp [results, Tryd.results76, go_sem, k0, k1]) rfl
      ⟨_, RetInt.stored hi2 B1 hb2 (Nat.le_refl _) k0 k1 rfl rfl, Nat.mul_pos HE.out.1 (Nat.pow_pos (by decide)), HE.out.2⟩
end Go.Proofs.YtclmenpclkmfeaaDoor
namespace Go.Proofs.YtclmenpclkmfeaaDoor
open Go.RowKit
theorem getD_ltR {xs : List Nat} (hL : Limbs xs) (k : Nat) : xs.getD k 0 < 4294967296 := by
  rw [List.getD_eq_getElem?_getD]
  rcases Nat.lt_or_ge k xs.length with h | h
  · rw [List.getElem?_eq_getElem h]; exact hL _ (List.getElem_mem _)
  · rw [List.getElem?_eq_none h]; exact Nat.zero_lt_succ _
theorem isInt_zeroR (w : World) : IsInt w false none 0 0 0 := ⟨by simp, by simpa [digs_zero] using Lim.none_ (by omega)⟩
theorem mulS_z (g g' : Bool) (A A' : Option Addr) (n c m d : Nat) (w : World) {a S : Nat} (ha : IsInt w g A n c (a : Int)) (hb : IsInt w g' A' m d (S : Int)) (h : (digs a).length ≤ 90000 ∧ (digs S).length ≤ 1) :
    Calls Tryd.prog 33 #[.agg #[.bool g, .slice A n c], .agg #[.bool g', .slice A' m d]] w (RetInt w ((a * S : Nat) : Int)) := by
  have h1 : n ≤ 90000 := ha.len_le (by rw [Int.natAbs_natCast]; exact h.1)
  have h2 : m ≤ 1 := hb.len_le (by rw [Int.natAbs_natCast]; exact h.2)
  have := rmul_any g g' A A' n c m d a S w ha hb (by omega) (by omega)
  rwa [← Int.natCast_mul] at this
theorem est_all (A A' : Option Addr) (n m c d r dd : Nat) (w : World) (ha : Lim w w.heap.size A n c (digs r)) (hb : Lim w w.heap.size A' m d (digs dd)) (hn : n ≤ 100000) (_hm : m ≤ 100000) (h0 : 0 < dd) (hle : dd ≤ r) :
    Calls Tryd.prog 76 #[.slice A n c, .slice A' m d] w (RetEst w r dd) := by
  have h1 : m ≤ n := by rw [← ha.len, ← hb.len]; exact digs_len_mono hle
  have h2 : 0 < m := by rw [← hb.len]; exact digs_len_pos h0
  obtain ⟨k, rfl⟩ : ∃ k, m = k + 1 := ⟨m - 1, by omega⟩
  rcases Nat.lt_or_ge (k + 1) n with h3 | h3
  · obtain ⟨l, rfl⟩ : ∃ l, n = k + 1 + (l + 1) := ⟨n - k - 2, by omega⟩
    exact est_gt A A' k l c d r dd w ha hb (by omega)
  · obtain rfl : n = k + 1 := by omega
    exact est_eq A A' k c d r dd w ha hb (by omega) hle
set_option maxRecDepth 1000000 in
set_option maxHeartbeats 4000000 in
theorem rdiv_more (A A' : Option Addr) (n c m dc a b : Nat) (w : World) (ha : Lim w w.heap.size A n c (digs a)) (hb : Lim w w.heap.size A' m dc (digs b)) (hn : n ≤ 80000) (hm : m ≤ 80000) (h2 : 2 ≤ m) :
    Calls Tryd.prog 54 #[.slice A n c, .slice A' m dc] w (RetII w ((a / b : Nat) : Int) ((a % b : Nat) : Int)) := by
  have hb0 : 0 < b := by
    rcases Nat.eq_zero_or_pos b with h | h
    · exfalso; subst h; have := hb.len; rw [digs_zero] at this; simp at this; omega
    · exact h
  obtain ⟨j, hj⟩ : ∃ j, m = j + 1 := ⟨m - 1, by omega⟩
  have htop := (digs_top (k := j) (by rw [hb.len, hj])).2
  have htl := getD_ltR (limbs_digs b) j
  obtain ⟨t, ht⟩ : ∃ t, t = (digs b).getD j 0 := ⟨_, rfl⟩
  rw [← ht] at htop htl
  have HC : ∀ W, Below w.heap.size w W → ∃ ad : Addr, A' = some ad ∧ W.cell? (ad.add (m - 1)) = some (.int .u32 (t : Int)) := fun W hW => by
    obtain ⟨ad, e, _, x, hx, _, hc⟩ := (hb.below hW).at_ (k := m - 1) (by omega)
    have hx' := hx.out
    rw [show m - 1 = j by omega, ← ht] at hx'
    subst hx'
    exact ⟨ad, e, hc⟩
  obtain ⟨HB, P0, P1⟩ := frame02 w
  obtain ⟨ad, rfl, hct⟩ := HC _ HB
  have b1 : ((m : Int) == 1) = false := by simp; omega
  have i1 : IntKind.i64.wrap ((m : Int) - 1) = (m : Int) - 1 := by rw [IntKind.wrap_i64]; omega
  clear HC
  have HT := Lib.hid ht
  clear ht
  have HJ := Lib.hid hj
  clear hj
  go_enter Tryd.func54, Tryd.ntmps54
  go_wp2
  go_loop [8] (fun s8 => ∃ S : Nat, s8 = .int .u32 S ∧ 1 ≤ S ∧ S < 4294967296) (fun s8 => (4294967296 - intOf s8).toNat)
  case atStart => exact ⟨1, by go_num, by omega, by omega⟩
  case round =>
    obtain ⟨S, rfl, hS1, hS2⟩ := hrel
    obtain ⟨p, hp⟩ : ∃ p, p = t * S := ⟨_, rfl⟩
    have hpl : p ≤ 4294967295 * 4294967295 := by rw [hp]; exact Nat.mul_le_mul (by omega) (by omega)
    have hpe : (t : Int) * (S : Int) = (p : Int) := by rw [hp]; exact (Int.natCast_mul t S).symm
    have hps : S ≤ p := by rw [hp]; exact Nat.le_mul_of_pos_left _ (by omega)
    have HP := Lib.hid hp
    clear hp
    by_cases hlt : p < 2147483648
    · have hlt' : (p : Int) < 2147483648 := by omega
      go_wp2
      exact ⟨⟨2 * S, by go_num, by omega, by omega⟩, by simp [intOf]; omega⟩
    · have hlt' : ¬ (p : Int) < 2147483648 := by omega
      have hl0 := (row_new ((w.alloc (.cells #[.bool false, .slice none 0 0] 28)).alloc (.cells #[.bool false, .slice none 0 0] 28)) [S] #[.int .u32 (S : Int)] (by simp [ints])).len_lim (by intro z hz; simp at hz; omega) 1 rfl (by omega)
      rw [show ((w.alloc (.cells #[.bool false, .slice none 0 0] 28)).alloc (.cells #[.bool false, .slice none 0 0] 28)).heap.size = w.heap.size + 1 + 1 by simp] at hl0
      have D0 := (Below.refl ((w.alloc (.cells #[.bool false, .slice none 0 0] 28)).alloc (.cells #[.bool false, .slice none 0 0] 28)).heap.size _).alloc (Nat.le_refl _) (.cells #[.int .u32 (S : Int)] 69)
      go_wp2_with fail
      (with_reducible refine (made_val false _ _ _ S (S : Int) [S] _ hl0 (by simp) (val_one _) rfl).mono ?_)
      rintro e w4 ⟨gF, AF, nF, cF, rfl, iF, bF⟩
      have E0 := Below.trans D0 (bF.mono D0.size)
      have P0' := P0.after E0
      have P1' := P1.after E0
      have B4 := HB.trans (E0.mono HB.size)
      have SF := Slot2.new w4 (.bool gF) (.slice AF nF cF) 28
      have DF := (Below.refl w4.heap.size w4).alloc (Nat.le_refl _) (.cells #[.bool gF, .slice AF nF cF] 28)
      have IF := iF.below DF
      have P0F := P0'.after DF
      have P1F := P1'.after DF
      have BF := B4.trans (DF.mono B4.size)
      have MA := fun W (hW : Below w.heap.size w W) => Made_any false A n c w.heap.size (digs a) W (ha.below hW) hW.size (by omega)
      have MB := fun W (hW : Below w.heap.size w W) => Made_any false (some ad) m dc w.heap.size (digs b) W (hb.below hW) hW.size (by omega)
      have za : zOf false a = (a : Int) := rfl
      have zb : zOf false b = (b : Int) := rfl
      simp only [val_digs, za, zb] at MA MB
      have LA : (digs a).length ≤ 90000 ∧ (digs S).length ≤ 1 := ⟨by rw [ha.len]; omega, digs_len_le (by omega)⟩
      have LB : (digs b).length ≤ 90000 ∧ (digs S).length ≤ 1 := ⟨by rw [hb.len]; omega, digs_len_le (by omega)⟩
      have hal := lt_digs_len a
      rw [ha.len] at hal
      clear hl0 D0 bF E0 P0 P1 hct P0' P1' B4 DF iF za zb ha hb HT
      go_wp2_with fail
      generalize w4.alloc (.cells #[.bool gF, .slice AF nF cF] 28) = wF at *
      go_cut [10, 11, 12] (fun p10 p11 p12 wx => ∃ g0 g1 g2 : Nat, p10 = .pointer (some ⟨g0, 0, none⟩) ∧ p11 = .pointer (some ⟨g1, 0, none⟩) ∧ p12 = .pointer (some ⟨g2, 0, none⟩) ∧ IntAt wx g0 ((a * S : Nat) : Int) ∧ IntAt wx g1 ((b * S : Nat) : Int) ∧ IntAt wx g2 0 ∧ g0 ≠ g1 ∧ g0 ≠ g2 ∧ g1 ≠ g2 ∧ wF.heap.size ≤ g0 ∧ wF.heap.size ≤ g1 ∧ wF.heap.size ≤ g2 ∧ Below wF.heap.size wF wx)
      case first =>
        as_aux_lemma =>
          have HXF : Hid (∀ W, Below wF.heap.size wF W → Slot2 W w4.heap.size (.bool gF) (.slice AF nF cF)) := fun W hW => SF.after hW
          have HMA : Hid (∀ W, Below wF.heap.size wF W → Calls Tryd.prog 48 #[.slice A n c, .bool false] W (RetInt W (a : Int))) := fun W hW => MA W (BF.trans (hW.mono BF.size))
          have HMB : Hid (∀ W, Below wF.heap.size wF W → Calls Tryd.prog 48 #[.slice (some ad) m dc, .bool false] W (RetInt W (b : Int))) := fun W hW => MB W (BF.trans (hW.mono BF.size))
          have HAS := Lib.hid LA
          have HBS := Lib.hid LB
          clear SF MA MB LA LB
          refine wp_region_ev (fun d a0 a' w' => ∃ u48 u49 u50 u51 u52 u53 u54 u55 u56 u10 u11 u12 : Value, a' = ((((((((((((a0.put (some 48) u48).put (some 49) u49).put (some 50) u50).put (some 51) u51).put (some 52) u52).put (some 53) u53).put (some 54) u54).put (some 55) u55).put (some 56) u56).put (some 10) u10).put (some 11) u11).put (some 12) u12) ∧ Below wF.heap.size wF w' ∧ (d 0 = true → u48 = .slice A n c) ∧ (d 1 = true → IntV w' u49 ((a : Int))) ∧ (d 2 = true → u50 = .agg #[.bool gF, .slice AF nF cF]) ∧ (d 3 = true → IntV w' u51 (((a * S : Nat) : Int))) ∧ (d 4 = true → u52 = .slice (some ad) m dc) ∧ (d 5 = true → IntV w' u53 ((b : Int))) ∧ (d 6 = true → u54 = .agg #[.bool gF, .slice AF nF cF]) ∧ (d 7 = true → IntV w' u55 (((b * S : Nat) : Int))) ∧ (d 8 = true → IntV w' u56 (0)) ∧ (d 9 = true → OwnP wF.heap.size w' u10 (d 12) (((a * S : Nat) : Int))) ∧ (d 10 = true → OwnP wF.heap.size w' u11 (d 13) (((b * S : Nat) : Int))) ∧ (d 11 = true → OwnP wF.heap.size w' u12 (d 14) (0)) ∧ (d 9 = true → d 10 = true → u10 ≠ u11) ∧ (d 9 = true → d 11 = true → u10 ≠ u12) ∧ (d 10 = true → d 11 = true → u11 ≠ u12) ∧ (d 12 = true → d 9 = true) ∧ (d 13 = true → d 10 = true) ∧ (d 14 = true → d 11 = true)) (by kernel_rfl) (by kernel_rfl) ?_ ?_ ?_ ?_
          · intro d d' h a' w' hh
            obtain rfl : d = d' := funext h
            exact hh
          · exact ⟨_, _, _, _, _, _, _, _, _, _, _, _, (by simp only [Act.put, List.setIfInBounds_toArray, List.set_cons_zero, List.set_cons_succ]; rfl), (Below.refl _ _).drew, (fun h => by cases h), (fun h => by cases h), (fun h => by cases h), (fun h => by cases h), (fun h => by cases h), (fun h => by cases h), (fun h => by cases h), (fun h => by cases h), (fun h => by cases h), (fun h => by cases h), (fun h => by cases h), (fun h => by cases h), (fun h => by cases h), (fun h => by cases h), (fun h => by cases h), (fun h => by cases h), (fun h => by cases h), (fun h => by cases h)⟩
          · refine ⟨?_, ?_, ?_, ?_, ?_, ?_, ?_, ?_, ?_, ?_, ?_, ?_, ?_, ?_, ?_, trivial⟩
            · intro d a2 w2 hd hm ⟨u48, u49, u50, u51, u52, u53, u54, u55, u56, u10, u11, u12, e, HB, f0, f1, f2, f3, f4, f5, f6, f7, f8, f9, f10, f11, n01, n02, n12, t0, t1, t2⟩ K hK
              subst e
              simp only [Act.put, List.setIfInBounds_toArray, List.set_cons_zero, List.set_cons_succ]
              go_simp
              exact hK.out _ _ ⟨.slice A n c, u49, u50, u51, u52, u53, u54, u55, u56, u10, u11, u12, (by simp only [Act.put, List.setIfInBounds_toArray, List.set_cons_zero, List.set_cons_succ]), HB, (fun _ => rfl), (fun h => (f1 (by simpa using h))), (fun h => f2 (by simpa using h)), (fun h => (f3 (by simpa using h))), (fun h => f4 (by simpa using h)), (fun h => (f5 (by simpa using h))), (fun h => f6 (by simpa using h)), (fun h => (f7 (by simpa using h))), (fun h => (f8 (by simpa using h))), (fun h => by simpa using (f9 (by simpa using h))), (fun h => by simpa using (f10 (by simpa using h))), (fun h => by simpa using (f11 (by simpa using h))), (fun h h' => n01 (by simpa using h) (by simpa using h')), (fun h h' => n02 (by simpa using h) (by simpa using h')), (fun h h' => n12 (by simpa using h) (by simpa using h')), (fun h => by simpa using t0 (by simpa using h)), (fun h => by simpa using t1 (by simpa using h)), (fun h => by simpa using t2 (by simpa using h))⟩
            · intro d a2 w2 hd hm ⟨u48, u49, u50, u51, u52, u53, u54, u55, u56, u10, u11, u12, e, HB, f0, f1, f2, f3, f4, f5, f6, f7, f8, f9, f10, f11, n01, n02, n12, t0, t1, t2⟩ K hK
              subst e
              simp only [Act.put, List.setIfInBounds_toArray, List.set_cons_zero, List.set_cons_succ]
              obtain rfl := f0 (hm ⟨0, .data⟩ (by simp) rfl)
              clear f0
              go_simp
              (with_reducible refine (HMA.out _ HB).mono ?_)
              rintro e w3 ⟨gg, AA, nn, cc, rfl, hi, hb⟩
              have HB3 := HB.trans (hb.mono HB.size)
              go_wp2_with fail
              exact hK.out _ _ ⟨.slice A n c, .agg #[.bool gg, .slice AA nn cc], u50, u51, u52, u53, u54, u55, u56, u10, u11, u12, (by simp only [Act.put, List.setIfInBounds_toArray, List.set_cons_zero, List.set_cons_succ]), HB3, (fun _ => rfl), (fun _ => ⟨_, _, _, _, rfl, hi⟩), (fun h => f2 (by simpa using h)), (fun h => (f3 (by simpa using h)).below hb), (fun h => f4 (by simpa using h)), (fun h => (f5 (by simpa using h)).below hb), (fun h => f6 (by simpa using h)), (fun h => (f7 (by simpa using h)).below hb), (fun h => (f8 (by simpa using h)).below hb), (fun h => by simpa using (f9 (by simpa using h)).below hb), (fun h => by simpa using (f10 (by simpa using h)).below hb), (fun h => by simpa using (f11 (by simpa using h)).below hb), (fun h h' => n01 (by simpa using h) (by simpa using h')), (fun h h' => n02 (by simpa using h) (by simpa using h')), (fun h h' => n12 (by simpa using h) (by simpa using h')), (fun h => by simpa using t0 (by simpa using h)), (fun h => by simpa using t1 (by simpa using h)), (fun h => by simpa using t2 (by simpa using h))⟩
            · intro d a2 w2 hd hm ⟨u48, u49, u50, u51, u52, u53, u54, u55, u56, u10, u11, u12, e, HB, f0, f1, f2, f3, f4, f5, f6, f7, f8, f9, f10, f11, n01, n02, n12, t0, t1, t2⟩ K hK
              subst e
              simp only [Act.put, List.setIfInBounds_toArray, List.set_cons_zero, List.set_cons_succ]
              obtain ⟨q0, q1, _, _, _⟩ := HXF.out w2 HB
              go_simp
              exact hK.out _ _ ⟨u48, u49, .agg #[.bool gF, .slice AF nF cF], u51, u52, u53, u54, u55, u56, u10, u11, u12, (by simp only [Act.put, List.setIfInBounds_toArray, List.set_cons_zero, List.set_cons_succ]), HB, (fun h => f0 (by simpa using h)), (fun h => (f1 (by simpa using h))), (fun _ => rfl), (fun h => (f3 (by simpa using h))), (fun h => f4 (by simpa using h)), (fun h => (f5 (by simpa using h))), (fun h => f6 (by simpa using h)), (fun h => (f7 (by simpa using h))), (fun h => (f8 (by simpa using h))), (fun h => by simpa using (f9 (by simpa using h))), (fun h => by simpa using (f10 (by simpa using h))), (fun h => by simpa using (f11 (by simpa using h))), (fun h h' => n01 (by simpa using h) (by simpa using h')), (fun h h' => n02 (by simpa using h) (by simpa using h')), (fun h h' => n12 (by simpa using h) (by simpa using h')), (fun h => by simpa using t0 (by simpa using h)), (fun h => by simpa using t1 (by simpa using h)), (fun h => by simpa using t2 (by simpa using h))⟩
            · intro d a2 w2 hd hm ⟨u48, u49, u50, u51, u52, u53, u54, u55, u56, u10, u11, u12, e, HB, f0, f1, f2, f3, f4, f5, f6, f7, f8, f9, f10, f11, n01, n02, n12, t0, t1, t2⟩ K hK
              subst e
              simp only [Act.put, List.setIfInBounds_toArray, List.set_cons_zero, List.set_cons_succ]
              obtain ⟨G1, A1, N1, C1, rfl, I1⟩ := f1 (hm ⟨1, .data⟩ (by simp) rfl)
              obtain rfl := f2 (hm ⟨2, .data⟩ (by simp) rfl)
              clear f2
              go_simp
              (with_reducible refine (mulS_z _ _ _ _ _ _ _ _ _ I1 (IF.below HB) HAS.out).mono ?_)
              rintro e w3 ⟨gg, AA, nn, cc, rfl, hi, hb⟩
              have HB3 := HB.trans (hb.mono HB.size)
              go_wp2_with fail
              exact hK.out _ _ ⟨u48, .agg #[.bool G1, .slice A1 N1 C1], .agg #[.bool gF, .slice AF nF cF], .agg #[.bool gg, .slice AA nn cc], u52, u53, u54, u55, u56, u10, u11, u12, (by simp only [Act.put, List.setIfInBounds_toArray, List.set_cons_zero, List.set_cons_succ]), HB3, (fun h => f0 (by simpa using h)), (fun h => (f1 (by simpa using h)).below hb), (fun _ => rfl), (fun _ => ⟨_, _, _, _, rfl, hi⟩), (fun h => f4 (by simpa using h)), (fun h => (f5 (by simpa using h)).below hb), (fun h => f6 (by simpa using h)), (fun h => (f7 (by simpa using h)).below hb), (fun h => (f8 (by simpa using h)).below hb), (fun h => by simpa using (f9 (by simpa using h)).below hb), (fun h => by simpa using (f10 (by simpa using h)).below hb), (fun h => by simpa using (f11 (by simpa using h)).below hb), (fun h h' => n01 (by simpa using h) (by simpa using h')), (fun h h' => n02 (by simpa using h) (by simpa using h')), (fun h h' => n12 (by simpa using h) (by simpa using h')), (fun h => by simpa using t0 (by simpa using h)), (fun h => by simpa using t1 (by simpa using h)), (fun h => by simpa using t2 (by simpa using h))⟩
            · intro d a2 w2 hd hm ⟨u48, u49, u50, u51, u52, u53, u54, u55, u56, u10, u11, u12, e, HB, f0, f1, f2, f3, f4, f5, f6, f7, f8, f9, f10, f11, n01, n02, n12, t0, t1, t2⟩ K hK
              subst e
              simp only [Act.put, List.setIfInBounds_toArray, List.set_cons_zero, List.set_cons_succ]
              go_simp
              exact hK.out _ _ ⟨u48, u49, u50, u51, .slice (some ad) m dc, u53, u54, u55, u56, u10, u11, u12, (by simp only [Act.put, List.setIfInBounds_toArray, List.set_cons_zero, List.set_cons_succ]), HB, (fun h => f0 (by simpa using h)), (fun h => (f1 (by simpa using h))), (fun h => f2 (by simpa using h)), (fun h => (f3 (by simpa using h))), (fun _ => rfl), (fun h => (f5 (by simpa using h))), (fun h => f6 (by simpa using h)), (fun h => (f7 (by simpa using h))), (fun h => (f8 (by simpa using h))), (fun h => by simpa using (f9 (by simpa using h))), (fun h => by simpa using (f10 (by simpa using h))), (fun h => by simpa using (f11 (by simpa using h))), (fun h h' => n01 (by simpa using h) (by simpa using h')), (fun h h' => n02 (by simpa using h) (by simpa using h')), (fun h h' => n12 (by simpa using h) (by simpa using h')), (fun h => by simpa using t0 (by simpa using h)), (fun h => by simpa using t1 (by simpa using h)), (fun h => by simpa using t2 (by simpa using h))⟩
            · intro d a2 w2 hd hm ⟨u48, u49, u50, u51, u52, u53, u54, u55, u56, u10, u11, u12, e, HB, f0, f1, f2, f3, f4, f5, f6, f7, f8, f9, f10, f11, n01, n02, n12, t0, t1, t2⟩ K hK
              subst e
              simp only [Act.put, List.setIfInBounds_toArray, List.set_cons_zero, List.set_cons_succ]
              obtain rfl := f4 (hm ⟨4, .data⟩ (by simp) rfl)
              clear f4
              go_simp
              (with_reducible refine (HMB.out _ HB).mono ?_)
              rintro e w3 ⟨gg, AA, nn, cc, rfl, hi, hb⟩
              have HB3 := HB.trans (hb.mono HB.size)
              go_wp2_with fail
              exact hK.out _ _ ⟨u48, u49, u50, u51, .slice (some ad) m dc, .agg #[.bool gg, .slice AA nn cc], u54, u55, u56, u10, u11, u12, (by simp only [Act.put, List.setIfInBounds_toArray, List.set_cons_zero, List.set_cons_succ]), HB3, (fun h => f0 (by simpa using h)), (fun h => (f1 (by simpa using h)).below hb), (fun h => f2 (by simpa using h)), (fun h => (f3 (by simpa using h)).below hb), (fun _ => rfl), (fun _ => ⟨_, _, _, _, rfl, hi⟩), (fun h => f6 (by simpa using h)), (fun h => (f7 (by simpa using h)).below hb), (fun h => (f8 (by simpa using h)).below hb), (fun h => by simpa using (f9 (by simpa using h)).below hb), (fun h => by simpa using (f10 (by simpa using h)).below hb), (fun h => by simpa using (f11 (by simpa using h)).below hb), (fun h h' => n01 (by simpa using h) (by simpa using h')), (fun h h' => n02 (by simpa using h) (by simpa using h')), (fun h h' => n12 (by simpa using h) (by simpa using h')), (fun h => by simpa using t0 (by simpa using h)), (fun h => by simpa using t1 (by simpa using h)), (fun h => by simpa using t2 (by simpa using h))⟩
            · intro d a2 w2 hd hm ⟨u48, u49, u50, u51, u52, u53, u54, u55, u56, u10, u11, u12, e, HB, f0, f1, f2, f3, f4, f5, f6, f7, f8, f9, f10, f11, n01, n02, n12, t0, t1, t2⟩ K hK
              subst e
              simp only [Act.put, List.setIfInBounds_toArray, List.set_cons_zero, List.set_cons_succ]
              obtain ⟨q0, q1, _, _, _⟩ := HXF.out w2 HB
              go_simp
              exact hK.out _ _ ⟨u48, u49, u50, u51, u52, u53, .agg #[.bool gF, .slice AF nF cF], u55, u56, u10, u11, u12, (by simp only [Act.put, List.setIfInBounds_toArray, List.set_cons_zero, List.set_cons_succ]), HB, (fun h => f0 (by simpa using h)), (fun h => (f1 (by simpa using h))), (fun h => f2 (by simpa using h)), (fun h => (f3 (by simpa using h))), (fun h => f4 (by simpa using h)), (fun h => (f5 (by simpa using h))), (fun _ => rfl), (fun h => (f7 (by simpa using h))), (fun h => (f8 (by simpa using h))), (fun h => by simpa using (f9 (by simpa using h))), (fun h => by simpa using (f10 (by simpa using h))), (fun h => by simpa using (f11 (by simpa using h))), (fun h h' => n01 (by simpa using h) (by simpa using h')), (fun h h' => n02 (by simpa using h) (by simpa using h')), (fun h h' => n12 (by simpa using h) (by simpa using h')), (fun h => by simpa using t0 (by simpa using h)), (fun h => by simpa using t1 (by simpa using h)), (fun h => by simpa using t2 (by simpa using h))⟩
            · intro d a2 w2 hd hm ⟨u48, u49, u50, u51, u52, u53, u54, u55, u56, u10, u11, u12, e, HB, f0, f1, f2, f3, f4, f5, f6, f7, f8, f9, f10, f11, n01, n02, n12, t0, t1, t2⟩ K hK
              subst e
              simp only [Act.put, List.setIfInBounds_toArray, List.set_cons_zero, List.set_cons_succ]
              obtain ⟨G5, A5, N5, C5, rfl, I5⟩ := f5 (hm ⟨5, .data⟩ (by simp) rfl)
              obtain rfl := f6 (hm ⟨6, .data⟩ (by simp) rfl)
              clear f6
              go_simp
              (with_reducible refine (mulS_z _ _ _ _ _ _ _ _ _ I5 (IF.below HB) HBS.out).mono ?_)
              rintro e w3 ⟨gg, AA, nn, cc, rfl, hi, hb⟩
              have HB3 := HB.trans (hb.mono HB.size)
              go_wp2_with fail
              exact hK.out _ _ ⟨u48, u49, u50, u51, u52, .agg #[.bool G5, .slice A5 N5 C5], .agg #[.bool gF, .slice AF nF cF], .agg #[.bool gg, .slice AA nn cc], u56, u10, u11, u12, (by simp only [Act.put, List.setIfInBounds_toArray, List.set_cons_zero, List.set_cons_succ]), HB3, (fun h => f0 (by simpa using h)), (fun h => (f1 (by simpa using h)).below hb), (fun h => f2 (by simpa using h)), (fun h => (f3 (by simpa using h)).below hb), (fun h => f4 (by simpa using h)), (fun h => (f5 (by simpa using h)).below hb), (fun _ => rfl), (fun _ => ⟨_, _, _, _, rfl, hi⟩), (fun h => (f8 (by simpa using h)).below hb), (fun h => by simpa using (f9 (by simpa using h)).below hb), (fun h => by simpa using (f10 (by simpa using h)).below hb), (fun h => by simpa using (f11 (by simpa using h)).below hb), (fun h h' => n01 (by simpa using h) (by simpa using h')), (fun h h' => n02 (by simpa using h) (by simpa using h')), (fun h h' => n12 (by simpa using h) (by simpa using h')), (fun h => by simpa using t0 (by simpa using h)), (fun h => by simpa using t1 (by simpa using h)), (fun h => by simpa using t2 (by simpa using h))⟩
            · intro d a2 w2 hd hm ⟨u48, u49, u50, u51, u52, u53, u54, u55, u56, u10, u11, u12, e, HB, f0, f1, f2, f3, f4, f5, f6, f7, f8, f9, f10, f11, n01, n02, n12, t0, t1, t2⟩ K hK
              subst e
              simp only [Act.put, List.setIfInBounds_toArray, List.set_cons_zero, List.set_cons_succ]
              go_simp
              exact hK.out _ _ ⟨u48, u49, u50, u51, u52, u53, u54, u55, .agg #[.bool false, .slice none 0 0], u10, u11, u12, (by simp only [Act.put, List.setIfInBounds_toArray, List.set_cons_zero, List.set_cons_succ]), HB, (fun h => f0 (by simpa using h)), (fun h => (f1 (by simpa using h))), (fun h => f2 (by simpa using h)), (fun h => (f3 (by simpa using h))), (fun h => f4 (by simpa using h)), (fun h => (f5 (by simpa using h))), (fun h => f6 (by simpa using h)), (fun h => (f7 (by simpa using h))), (fun _ => ⟨_, _, _, _, rfl, isInt_zeroR _⟩), (fun h => by simpa using (f9 (by simpa using h))), (fun h => by simpa using (f10 (by simpa using h))), (fun h => by simpa using (f11 (by simpa using h))), (fun h h' => n01 (by simpa using h) (by simpa using h')), (fun h h' => n02 (by simpa using h) (by simpa using h')), (fun h h' => n12 (by simpa using h) (by simpa using h')), (fun h => by simpa using t0 (by simpa using h)), (fun h => by simpa using t1 (by simpa using h)), (fun h => by simpa using t2 (by simpa using h))⟩
            · intro d a2 w2 hd hm ⟨u48, u49, u50, u51, u52, u53, u54, u55, u56, u10, u11, u12, e, HB, f0, f1, f2, f3, f4, f5, f6, f7, f8, f9, f10, f11, n01, n02, n12, t0, t1, t2⟩ K hK
              subst e
              simp only [Act.put, List.setIfInBounds_toArray, List.set_cons_zero, List.set_cons_succ]
              have hb : Below w2.heap.size w2 (w2.alloc (.cells #[.bool false, .slice none 0 0] 28)) := (Below.refl _ _).alloc (Nat.le_refl _) _
              have HB3 := HB.trans (hb.mono HB.size)
              go_simp
              exact hK.out _ _ ⟨u48, u49, u50, u51, u52, u53, u54, u55, u56, .pointer (some ⟨w2.heap.size, 0, none⟩), u11, u12, (by simp only [Act.put, List.setIfInBounds_toArray, List.set_cons_zero, List.set_cons_succ]), HB3, (fun h => f0 (by simpa using h)), (fun h => (f1 (by simpa using h)).below hb), (fun h => f2 (by simpa using h)), (fun h => (f3 (by simpa using h)).below hb), (fun h => f4 (by simpa using h)), (fun h => (f5 (by simpa using h)).below hb), (fun h => f6 (by simpa using h)), (fun h => (f7 (by simpa using h)).below hb), (fun h => (f8 (by simpa using h)).below hb), (fun _ => by have hs : d 12 = false := (by cases hq : d 12 with | false => rfl | true => (have hz := t0 hq; rw [hd] at hz; cases hz)); simpa [hs] using OwnP.new HB.size (((a * S : Nat) : Int))), (fun h => by simpa using (f10 (by simpa using h)).below hb), (fun h => by simpa using (f11 (by simpa using h)).below hb), (fun _ h' => ((f10 (by simpa using h')).lt).symm), (fun _ h' => ((f11 (by simpa using h')).lt).symm), (fun h h' => n12 (by simpa using h) (by simpa using h')), (fun _ => by simp), (fun h => by simpa using t1 (by simpa using h)), (fun h => by simpa using t2 (by simpa using h))⟩
            · intro d a2 w2 hd hm ⟨u48, u49, u50, u51, u52, u53, u54, u55, u56, u10, u11, u12, e, HB, f0, f1, f2, f3, f4, f5, f6, f7, f8, f9, f10, f11, n01, n02, n12, t0, t1, t2⟩ K hK
              subst e
              simp only [Act.put, List.setIfInBounds_toArray, List.set_cons_zero, List.set_cons_succ]
              have hb : Below w2.heap.size w2 (w2.alloc (.cells #[.bool false, .slice none 0 0] 28)) := (Below.refl _ _).alloc (Nat.le_refl _) _
              have HB3 := HB.trans (hb.mono HB.size)
              go_simp
              exact hK.out _ _ ⟨u48, u49, u50, u51, u52, u53, u54, u55, u56, u10, .pointer (some ⟨w2.heap.size, 0, none⟩), u12, (by simp only [Act.put, List.setIfInBounds_toArray, List.set_cons_zero, List.set_cons_succ]), HB3, (fun h => f0 (by simpa using h)), (fun h => (f1 (by simpa using h)).below hb), (fun h => f2 (by simpa using h)), (fun h => (f3 (by simpa using h)).below hb), (fun h => f4 (by simpa using h)), (fun h => (f5 (by simpa using h)).below hb), (fun h => f6 (by simpa using h)), (fun h => (f7 (by simpa using h)).below hb), (fun h => (f8 (by simpa using h)).below hb), (fun h => by simpa using (f9 (by simpa using h)).below hb), (fun _ => by have hs : d 13 = false := (by cases hq : d 13 with | false => rfl | true => (have hz := t1 hq; rw [hd] at hz; cases hz)); simpa [hs] using OwnP.new HB.size (((b * S : Nat) : Int))), (fun h => by simpa using (f11 (by simpa using h)).below hb), (fun h _ => (f9 (by simpa using h)).lt), (fun h h' => n02 (by simpa using h) (by simpa using h')), (fun _ h' => ((f11 (by simpa using h')).lt).symm), (fun h => by simpa using t0 (by simpa using h)), (fun _ => by simp), (fun h => by simpa using t2 (by simpa using h))⟩
            · intro d a2 w2 hd hm ⟨u48, u49, u50, u51, u52, u53, u54, u55, u56, u10, u11, u12, e, HB, f0, f1, f2, f3, f4, f5, f6, f7, f8, f9, f10, f11, n01, n02, n12, t0, t1, t2⟩ K hK
              subst e
              simp only [Act.put, List.setIfInBounds_toArray, List.set_cons_zero, List.set_cons_succ]
              have hb : Below w2.heap.size w2 (w2.alloc (.cells #[.bool false, .slice none 0 0] 28)) := (Below.refl _ _).alloc (Nat.le_refl _) _
              have HB3 := HB.trans (hb.mono HB.size)
              go_simp
              exact hK.out _ _ ⟨u48, u49, u50, u51, u52, u53, u54, u55, u56, u10, u11, .pointer (some ⟨w2.heap.size, 0, none⟩), (by simp only [Act.put, List.setIfInBounds_toArray, List.set_cons_zero, List.set_cons_succ]), HB3, (fun h => f0 (by simpa using h)), (fun h => (f1 (by simpa using h)).below hb), (fun h => f2 (by simpa using h)), (fun h => (f3 (by simpa using h)).below hb), (fun h => f4 (by simpa using h)), (fun h => (f5 (by simpa using h)).below hb), (fun h => f6 (by simpa using h)), (fun h => (f7 (by simpa using h)).below hb), (fun h => (f8 (by simpa using h)).below hb), (fun h => by simpa using (f9 (by simpa using h)).below hb), (fun h => by simpa using (f10 (by simpa using h)).below hb), (fun _ => by have hs : d 14 = false := (by cases hq : d 14 with | false => rfl | true => (have hz := t2 hq; rw [hd] at hz; cases hz)); simpa [hs] using OwnP.new HB.size (0)), (fun h h' => n01 (by simpa using h) (by simpa using h')), (fun h _ => (f9 (by simpa using h)).lt), (fun h _ => (f10 (by simpa using h)).lt), (fun h => by simpa using t0 (by simpa using h)), (fun h => by simpa using t1 (by simpa using h)), (fun _ => by simp)⟩
            · intro d a2 w2 hd hm ⟨u48, u49, u50, u51, u52, u53, u54, u55, u56, u10, u11, u12, e, HB, f0, f1, f2, f3, f4, f5, f6, f7, f8, f9, f10, f11, n01, n02, n12, t0, t1, t2⟩ K hK
              subst e
              simp only [Act.put, List.setIfInBounds_toArray, List.set_cons_zero, List.set_cons_succ]
              obtain ⟨gg, AA, nn, cc, rfl, hi⟩ := f3 (hm ⟨3, .data⟩ (by simp) rfl)
              obtain ⟨g, rfl, hg, b0, b1, hs, n0, n1, _⟩ := f9 (hm ⟨9, .data⟩ (by simp) rfl)
              obtain ⟨k0, k1, k2, k3, k4⟩ := id hs
              go_simp
              exact hK.out _ _ ⟨u48, u49, u50, .agg #[.bool gg, .slice AA nn cc], u52, u53, u54, u55, u56, .pointer (some ⟨g, 0, none⟩), u11, u12, (by simp only [Act.put, List.setIfInBounds_toArray, List.set_cons_zero, List.set_cons_succ]), Below.set2 HB hg _ _, (fun h => f0 (by simpa using h)), (fun h => (f1 (by simpa using h)).set2 hs n0 n1 _ _), (fun h => f2 (by simpa using h)), (fun h => (f3 (by simpa using h)).set2 hs n0 n1 _ _), (fun h => f4 (by simpa using h)), (fun h => (f5 (by simpa using h)).set2 hs n0 n1 _ _), (fun h => f6 (by simpa using h)), (fun h => (f7 (by simpa using h)).set2 hs n0 n1 _ _), (fun h => (f8 (by simpa using h)).set2 hs n0 n1 _ _), (fun _ => by simpa using OwnP.near hi hg hs n0 n1), (fun h => by simpa using (f10 (by simpa using h)).far ((n01 (hm ⟨9, .data⟩ (by simp) rfl) (by simpa using h)).symm) hs n0 n1 _ _), (fun h => by simpa using (f11 (by simpa using h)).far ((n02 (hm ⟨9, .data⟩ (by simp) rfl) (by simpa using h)).symm) hs n0 n1 _ _), (fun h h' => n01 (by simpa using h) (by simpa using h')), (fun h h' => n02 (by simpa using h) (by simpa using h')), (fun h h' => n12 (by simpa using h) (by simpa using h')), (fun _ => by simpa using hm ⟨9, .data⟩ (by simp) rfl), (fun h => by simpa using t1 (by simpa using h)), (fun h => by simpa using t2 (by simpa using h))⟩
            · intro d a2 w2 hd hm ⟨u48, u49, u50, u51, u52, u53, u54, u55, u56, u10, u11, u12, e, HB, f0, f1, f2, f3, f4, f5, f6, f7, f8, f9, f10, f11, n01, n02, n12, t0, t1, t2⟩ K hK
              subst e
              simp only [Act.put, List.setIfInBounds_toArray, List.set_cons_zero, List.set_cons_succ]
              obtain ⟨gg, AA, nn, cc, rfl, hi⟩ := f7 (hm ⟨7, .data⟩ (by simp) rfl)
              obtain ⟨g, rfl, hg, b0, b1, hs, n0, n1, _⟩ := f10 (hm ⟨10, .data⟩ (by simp) rfl)
              obtain ⟨k0, k1, k2, k3, k4⟩ := id hs
              go_simp
              exact hK.out _ _ ⟨u48, u49, u50, u51, u52, u53, u54, .agg #[.bool gg, .slice AA nn cc], u56, u10, .pointer (some ⟨g, 0, none⟩), u12, (by simp only [Act.put, List.setIfInBounds_toArray, List.set_cons_zero, List.set_cons_succ]), Below.set2 HB hg _ _, (fun h => f0 (by simpa using h)), (fun h => (f1 (by simpa using h)).set2 hs n0 n1 _ _), (fun h => f2 (by simpa using h)), (fun h => (f3 (by simpa using h)).set2 hs n0 n1 _ _), (fun h => f4 (by simpa using h)), (fun h => (f5 (by simpa using h)).set2 hs n0 n1 _ _), (fun h => f6 (by simpa using h)), (fun h => (f7 (by simpa using h)).set2 hs n0 n1 _ _), (fun h => (f8 (by simpa using h)).set2 hs n0 n1 _ _), (fun h => by simpa using (f9 (by simpa using h)).far (n01 (by simpa using h) (hm ⟨10, .data⟩ (by simp) rfl)) hs n0 n1 _ _), (fun _ => by simpa using OwnP.near hi hg hs n0 n1), (fun h => by simpa using (f11 (by simpa using h)).far ((n12 (hm ⟨10, .data⟩ (by simp) rfl) (by simpa using h)).symm) hs n0 n1 _ _), (fun h h' => n01 (by simpa using h) (by simpa using h')), (fun h h' => n02 (by simpa using h) (by simpa using h')), (fun h h' => n12 (by simpa using h) (by simpa using h')), (fun h => by simpa using t0 (by simpa using h)), (fun _ => by simpa using hm ⟨10, .data⟩ (by simp) rfl), (fun h => by simpa using t2 (by simpa using h))⟩
            · intro d a2 w2 hd hm ⟨u48, u49, u50, u51, u52, u53, u54, u55, u56, u10, u11, u12, e, HB, f0, f1, f2, f3, f4, f5, f6, f7, f8, f9, f10, f11, n01, n02, n12, t0, t1, t2⟩ K hK
              subst e
              simp only [Act.put, List.setIfInBounds_toArray, List.set_cons_zero, List.set_cons_succ]
              obtain ⟨gg, AA, nn, cc, rfl, hi⟩ := f8 (hm ⟨8, .data⟩ (by simp) rfl)
              obtain ⟨g, rfl, hg, b0, b1, hs, n0, n1, _⟩ := f11 (hm ⟨11, .data⟩ (by simp) rfl)
              obtain ⟨k0, k1, k2, k3, k4⟩ := id hs
              go_simp
              exact hK.out _ _ ⟨u48, u49, u50, u51, u52, u53, u54, u55, .agg #[.bool gg, .slice AA nn cc], u10, u11, .pointer (some ⟨g, 0, none⟩), (by simp only [Act.put, List.setIfInBounds_toArray, List.set_cons_zero, List.set_cons_succ]), Below.set2 HB hg _ _, (fun h => f0 (by simpa using h)), (fun h => (f1 (by simpa using h)).set2 hs n0 n1 _ _), (fun h => f2 (by simpa using h)), (fun h => (f3 (by simpa using h)).set2 hs n0 n1 _ _), (fun h => f4 (by simpa using h)), (fun h => (f5 (by simpa using h)).set2 hs n0 n1 _ _), (fun h => f6 (by simpa using h)), (fun h => (f7 (by simpa using h)).set2 hs n0 n1 _ _), (fun h => (f8 (by simpa using h)).set2 hs n0 n1 _ _), (fun h => by simpa using (f9 (by simpa using h)).far (n02 (by simpa using h) (hm ⟨11, .data⟩ (by simp) rfl)) hs n0 n1 _ _), (fun h => by simpa using (f10 (by simpa using h)).far (n12 (by simpa using h) (hm ⟨11, .data⟩ (by simp) rfl)) hs n0 n1 _ _), (fun _ => by simpa using OwnP.near hi hg hs n0 n1), (fun h h' => n01 (by simpa using h) (by simpa using h')), (fun h h' => n02 (by simpa using h) (by simpa using h')), (fun h h' => n12 (by simpa using h) (by simpa using h')), (fun h => by simpa using t0 (by simpa using h)), (fun h => by simpa using t1 (by simpa using h)), (fun _ => by simpa using hm ⟨11, .data⟩ (by simp) rfl)⟩
          · intro d a2 w2 hall ⟨u48, u49, u50, u51, u52, u53, u54, u55, u56, u10, u11, u12, e, HB, f0, f1, f2, f3, f4, f5, f6, f7, f8, f9, f10, f11, n01, n02, n12, t0, t1, t2⟩
            subst e
            simp only [Act.put, List.setIfInBounds_toArray, List.set_cons_zero, List.set_cons_succ]
            obtain rfl := f0 (hall _ (by decide))
            obtain rfl := f2 (hall _ (by decide))
            obtain rfl := f4 (hall _ (by decide))
            obtain rfl := f6 (hall _ (by decide))
            have x01 := n01 (hall _ (by decide)) (hall _ (by decide))
            have x02 := n02 (hall _ (by decide)) (hall _ (by decide))
            have x12 := n12 (hall _ (by decide)) (hall _ (by decide))
            obtain ⟨g0, rfl, h0, b0⟩ := OwnP.intAtB (by have := f9 (hall _ (by decide)); rwa [hall 12 (by decide)] at this)
            obtain ⟨g1, rfl, h1, b1⟩ := OwnP.intAtB (by have := f10 (hall _ (by decide)); rwa [hall 13 (by decide)] at this)
            obtain ⟨g2, rfl, h2, b2⟩ := OwnP.intAtB (by have := f11 (hall _ (by decide)); rwa [hall 14 (by decide)] at this)
            have e01 : g0 ≠ g1 := fun h => x01 (by rw [h])
            have e02 : g0 ≠ g2 := fun h => x02 (by rw [h])
            have e12 : g1 ≠ g2 := fun h => x12 (by rw [h])
            go_wp2_with fail
            go_meet
            exact ⟨g0, g1, g2, rfl, rfl, rfl, h0, h1, h2, e01, e02, e12, b0, b1, b2, HB⟩
      obtain ⟨g0, g1, g2, rfl, rfl, rfl, h0, h1, h2', e01, e02, e12, b0, b1', b2, BX⟩ := hcut
      have BW := BF.trans (BX.mono BF.size)
      have P0X := P0F.after BX
      have P1X := P1F.after BX
      have hwF := BF.size
      have hsz : w.heap.size + 2 ≤ wF.heap.size := P1F.2.2.2.2
      clear SF MA MB P0F P1F IF HB BX BF
      have HLA := Lib.hid LA
      have HLB := Lib.hid LB
      have HAL := Lib.hid hal
      clear LA LB hal
      obtain ⟨T, hT⟩ : ∃ T, T = b * S := ⟨_, rfl⟩
      obtain ⟨X, hX⟩ : ∃ X, X = a * S := ⟨_, rfl⟩
      rw [← hT] at h1
      rw [← hX] at h0
      have hT0 : 0 < T := by rw [hT]; exact Nat.mul_pos hb0 hS1
      have HTD := Lib.hid hT
      have HXD := Lib.hid hX
      clear hT hX
      go_wp2_with fail
      have HLEN : Hid (∀ {v : Nat} {W : World} {g : Bool} {B : Option Addr} {l k : Nat}, v ≤ X → IsInt W g B l k (v : Int) → l ≤ 90000) := fun hv hi => hi.len_le (Nat.le_trans (digs_len_mono hv) (by
        rw [HXD.out]
        have h1 := digs_len_mul a S
        have h2 := HLA.out
        have h3 : (digs a).length ≤ 80000 := Nat.le_trans (digs_len_le HAL.out) hn
        omega))
      have HLENT : Hid (∀ {W : World} {g : Bool} {B : Option Addr} {l k : Nat}, IsInt W g B l k (T : Int) → l ≤ 90001) := fun hi => hi.len_le (by
        rw [Int.natAbs_natCast, HTD.out]
        have h1 := digs_len_mul b S
        have h2 := HLB.out
        omega)
      go_loopg [13] X (fun r _ wr => ∃ q : Nat, IntAt wr g0 (r : Int) ∧ IntAt wr g1 (T : Int) ∧ IntAt wr g2 (q : Int) ∧ Hid (r + q * T = X) ∧ Below w.heap.size w wr ∧ Slot2 wr w.heap.size (.bool false) (.slice none 0 0) ∧ Slot2 wr (w.heap.size + 1) (.bool false) (.slice none 0 0))
      case atStart => exact ⟨0, h0, h1, h2', by simp [Hid], BW, P0X, P1X⟩
      case round =>
        obtain ⟨q, i0, i1', i2, hrq, BR, P0, P1⟩ := hrel
        obtain ⟨gr, Ar, nr, cr, Sr, Ir⟩ := i0
        obtain ⟨gt, At, nt, ct, St, It⟩ := i1'
        obtain ⟨gq, Aq, nq, cq, Sq, Iq⟩ := i2
        have hless := less_any Ar At nr cr nt ct _ _ _ _ wr Ir.lim It.lim
        rw [Int.natAbs_natCast, Int.natAbs_natCast, lessV_digs] at hless
        have ⟨k0, k1, _, _, _⟩ := Sr
        have ⟨k2, k3, _, _, _⟩ := St
        have hrx : gk ≤ X := by have := hrq.out; omega
        have hqx : q ≤ X := Nat.le_trans (Nat.le_mul_of_pos_right q hT0) (by have := hrq.out; omega)
        have hnr := HLEN.out hrx Ir
        have hnq := HLEN.out hqx Iq
        have hnt := HLENT.out It
        by_cases hlt : gk < T
        · rw [decide_eq_true hlt] at hless
          have HLESS := Lib.hid hless
          clear hless
          go_wp2_with fail
          refine HLESS.out.mono ?_
          rintro e w5 ⟨rfl, hd⟩
          have D5 := hd.below wr.heap.size
          have ⟨k4, k5, _, _, _⟩ := Sr.after D5
          have hsh := short_any Ar nr cr w5.heap.size S (digs gk) w5 (((Ir.below D5).lim)) (Nat.le_refl _) (by omega) (by omega) hS2
          rw [val_digs] at hsh
          have HSH := Lib.hid hsh
          clear hsh k0 k1 k2 k3
          go_wp2_with fail
          refine HSH.out.mono ?_
          rintro e w6 ⟨A6, zs, rfl, hl6, hv6, hb6⟩
          have hq6 := long_end (a := a) (b := b) (S := S) (v := gk) (q := q) hS1 hb0 (by rw [← HTD.out, ← HXD.out, Nat.mul_comm T]; exact hrq.out) (by rw [← HTD.out]; exact hlt)
          have HMD := fun W (hW : Below w6.heap.size w6 W) => made_val false A6 nr nr (a % b) ((a % b : Nat) : Int) zs W ((hl6.below hW).more hW.size) (by rw [hl6.len]; omega) (by rw [hv6, hq6.2]) rfl
          have D6 := D5.trans (hb6.mono D5.size)
          have I6 := Iq.below D6
          have S6 := Sq.after D6
          have P06 := P0.after D6
          have P16 := P1.after D6
          have B6 := BR.trans (D6.mono BR.size)
          rw [hq6.1] at I6
          have HMD' := Lib.hid HMD
          clear HMD hv6 hq6 k4 k5
          go_wp2_with fail
          have ⟨x0, x1, _, _, _⟩ := S6
          have ⟨y0, y1, y2, y3, _⟩ := P06
          have ⟨z0, z1, z2, z3, _⟩ := P16
          have hne : w.heap.size ≠ g2 := by omega
          go_region_with (go_at_call 48; (with_reducible refine (HMD'.out _ (by first | exact (Below.refl _ _).drew | exact Below.refl _ _)).mono ?_); rintro e w7 ⟨g7, A7, n7, c7, rfl, i7, b7⟩; have B7 : Below w6.heap.size w6 w7 := (by first | exact b7 | exact (Below.refl _ _).drew.trans b7); have ⟨x2, x3, _, _, _⟩ := S6.after B7; have ⟨y4, y5, y6, y7, _⟩ := P06.after B7; have ⟨z4, z5, z6, z7, _⟩ := P16.after B7)
          all_goals go_wp2
          all_goals refine bodyPost_ret (v := .tuple #[.agg #[.bool gq, .slice Aq nq cq], .agg #[.bool g7, .slice A7 n7 c7]]) ?_ rfl ?_
          any_goals exact RetII.stored I6 i7 B7 B6 (Below.refl _ _) (Nat.le_refl _) (P06.after B7) (P16.after B7)
          all_goals simp [results, Tryd.results54, go_sem, y4, y5, z4, z5]
        · rw [decide_eq_false hlt] at hless
          have HLESS := Lib.hid hless
          clear hless
          go_wp2_with fail
          refine HLESS.out.mono ?_
          rintro e w5 ⟨rfl, hd⟩
          have D5 := hd.below wr.heap.size
          have Sr5 := Sr.after D5
          have St5 := St.after D5
          have Sq5 := Sq.after D5
          have Ir5 := Ir.below D5
          have It5 := It.below D5
          have Iq5 := Iq.below D5
          have B5 := BR.trans (D5.mono BR.size)
          have P05 := P0.after D5
          have P15 := P1.after D5
          have hest := est_all Ar At nr nt cr ct gk T w5 Ir5.lim It5.lim (by omega) (by omega) hT0 (by omega)
          have HEST := Lib.hid hest
          clear hest Sr St Sq Ir It Iq D5 BR P0 P1 k0 k1 k2 k3
          have ⟨k0, k1, _, _, _⟩ := Sr5
          have ⟨k2, k3, _, _, _⟩ := St5
          go_wp2_with fail
          refine HEST.out.mono ?_
          rintro e w6 ⟨s, ⟨gs, As, ns, cs, rfl, is6, b6⟩, hs1, hs2⟩
          clear k0 k1 k2 k3
          have DA := (Below.refl w6.heap.size w6).alloc (Nat.le_refl _) (.cells #[.bool gs, .slice As ns cs] 28)
          have Ss7 := Slot2.new w6 (.bool gs) (.slice As ns cs) 28
          have Is7 := is6.below DA
          have D7 := b6.trans (DA.mono b6.size)
          have Sr7 := Sr5.after D7
          have St7 := St5.after D7
          have Sq7 := Sq5.after D7
          have Ir7 := Ir5.below D7
          have It7 := It5.below D7
          have Iq7 := Iq5.below D7
          have B7 := B5.trans (D7.mono B5.size)
          have P07 := P05.after D7
          have P17 := P15.after D7
          have hsx : s ≤ X := Nat.le_trans (Nat.le_mul_of_pos_right s hT0) (by omega)
          have hns := HLEN.out hsx is6
          have hg0l := (Sr5.after b6).2.2.2.2
          have hg1l := (St5.after b6).2.2.2.2
          have hg2l := (Sq5.after b6).2.2.2.2
          clear Sr5 St5 Sq5 Ir5 It5 Iq5 B5 P05 P15 is6 b6 DA D7 HLESS HEST
          have ⟨x0, x1, _, _, _⟩ := Sq7
          have ⟨y0, y1, _, _, _⟩ := Ss7
          go_wp2_with fail
          generalize w6.alloc (.cells #[.bool gs, .slice As ns cs] 28) = w7 at *
          generalize w6.heap.size = g3 at *
          have HADD := Lib.hid (radd_any gq gs Aq As nq cq ns cs (q : Int) (s : Int) w7 Iq7 Is7 (by omega) (by omega))
          refine HADD.out.mono ?_
          rintro e w8 ⟨g8, A8, n8, c8, rfl, i8, b8⟩
          have Sq8 := Sq7.after b8
          have ⟨u0, u1, u2, u3, _⟩ := Sq8
          have Sr9 := (Sr7.after b8).far2 e02 (.bool g8) (.slice A8 n8 c8)
          have St9 := (St7.after b8).far2 e12 (.bool g8) (.slice A8 n8 c8)
          have Ss9 := (Ss7.after b8).far2 (show g3 ≠ g2 by omega) (.bool g8) (.slice A8 n8 c8)
          have Iq9 := IntAt.near2 i8 Sq8 rfl rfl
          have Ir9 := (Ir7.below b8).set2 Sq8 rfl rfl (.bool g8) (.slice A8 n8 c8)
          have It9 := (It7.below b8).set2 Sq8 rfl rfl (.bool g8) (.slice A8 n8 c8)
          have Is9 := (Is7.below b8).set2 Sq8 rfl rfl (.bool g8) (.slice A8 n8 c8)
          have P09 := (P07.after b8).far2 (show w.heap.size ≠ g2 by omega) (.bool g8) (.slice A8 n8 c8)
          have P19 := (P17.after b8).far2 (show w.heap.size + 1 ≠ g2 by omega) (.bool g8) (.slice A8 n8 c8)
          have B9 := Below.set2 (B7.trans (b8.mono B7.size)) (show w.heap.size ≤ g2 by omega) (.bool g8) (.slice A8 n8 c8)
          clear x0 x1 y0 y1 Sr7 St7 Sq7 Ss7 Ir7 It7 Iq7 Is7 B7 P07 P17 b8 i8 HADD
          go_wp2_with fail
          clear u0 u1 u2 u3 Sq8
          generalize (w8.setCell ⟨g2, 0, none⟩ (.bool g8)).setCell ⟨g2, 1, none⟩ (.slice A8 n8 c8) = w9 at *
          have ⟨x0, x1, _, _, _⟩ := Sr9
          have ⟨x2, x3, _, _, _⟩ := St9
          have ⟨x4, x5, _, _, _⟩ := Ss9
          have HMUL : Hid (∀ W, Below w9.heap.size w9 W → Calls Tryd.prog 33 #[.agg #[.bool gs, .slice As ns cs], .agg #[.bool gt, .slice At nt ct]] W (RetInt W ((s : Int) * (T : Int)))) := fun W hW => rmul_any gs gt As At ns cs nt ct (s : Int) (T : Int) W (Is9.below hW) (It9.below hW) (by omega) (by omega)
          have HSUB : Hid (∀ W gm Am nm cm, Below w9.heap.size w9 W → IsInt W gm Am nm cm ((s : Int) * (T : Int)) → Calls Tryd.prog 23 #[.agg #[.bool gr, .slice Ar nr cr], .agg #[.bool gm, .slice Am nm cm]] W (RetInt W ((gk : Int) - (s : Int) * (T : Int)))) := fun W gm Am nm cm hW hi => rsub_any gr gm Ar Am nr cr nm cm (gk : Int) _ W (Ir9.below hW) hi (by omega) (by
            have h1 : ((s : Int) * (T : Int)) = ((s * T : Nat) : Int) := (Int.natCast_mul s T).symm
            rw [h1] at hi
            have := HLEN.out (v := s * T) (by omega) hi
            omega)
          have ITA : IntAt w9 g1 (T : Int) := ⟨gt, At, nt, ct, St9, It9⟩
          have hsT : 0 < s * T := Nat.mul_pos hs1 hT0
          have eR : ((gk : Int) - (s : Int) * (T : Int)) = ((gk - s * T : Nat) : Int) := by rw [Int.natCast_sub hs2, Int.natCast_mul]
          have eQ : ((q : Int) + (s : Int)) = ((q + s : Nat) : Int) := rfl
          rw [eQ] at Iq9
          have HER := Lib.hid eR
          clear eR eQ
          clear HLEN HLENT Ir9 It9 Is9
          go_region_with (first | (go_at_call 23; (with_reducible refine (HSUB.out _ _ _ _ _ B10 i10).mono ?_); rintro e w11 ⟨g11, A11, n11, c11, rfl, i11, b11⟩; have B11 := (B10.trans (b11.mono B10.size)); have ⟨v0, v1, v2, v3, _⟩ := Sr9.after B11) | (go_at_call 33; (with_reducible refine (HMUL.out _ (by first | exact (Below.refl _ _).drew | exact Below.refl _ _)).mono ?_); rintro e w10 ⟨g10, A10, n10, c10, rfl, i10, b10⟩; have B10 : Below w9.heap.size w9 w10 := (by first | exact b10 | exact (Below.refl _ _).drew.trans b10); have ⟨v4, v5, _, _, _⟩ := Sr9.after B10))
          all_goals go_wp2_with fail
          all_goals (
            rw [HER.out] at i11
            have Sr11 := Sr9.after B11
            have B12 := B9.trans (B11.mono B9.size)
            go_roundg (gk - s * T)
            case measure => omega
            case rel => exact ⟨q + s, IntAt.near2 i11 Sr11 rfl rfl, (ITA.after B11).far2 e01.symm Sr11 rfl rfl _ _, (Iq9.after B11).far2 e02.symm Sr11 rfl rfl _ _, by rw [Hid, Nat.add_mul]; have := hrq.out; omega, Below.set2 B12 (by omega) _ _, (P09.after B11).far2 (by omega) _ _, (P19.after B11).far2 (by omega) _ _⟩)
end Go.Proofs.YtclmenpclkmfeaaDoor
namespace Go.Proofs.YtclmenpclkmfeaaDoor
open Go.RowKit
/-- Numerator and denominator have at most k limbs, and k is small. -/
structure RSz (k : Nat) (q : Rat) : Prop where
  num : Sz k q.num
  den : Sz k (q.den : Int)
theorem RSz.mono {k l : Nat} {q : Rat} (h : RSz k q) (hkl : k ≤ l) (hl : l ≤ 10000) : RSz l q := ⟨h.num.mono hkl hl, h.den.mono hkl hl⟩
theorem den_ne (q : Rat) : (q.den : Int) ≠ 0 := by have := q.den_pos; omega
theorem RSz.divInt {k : Nat} {n d : Int} (sn : Sz k n) (sd : Sz k d) (h0 : d ≠ 0) : RSz k (Rat.divInt n d) :=
  ⟨Sz.of (Nat.lt_of_le_of_lt (q_num_le n d) sn.lt) sn.le, Sz.of (by rw [Int.natAbs_natCast]; exact Nat.lt_of_le_of_lt (q_den_le n d h0) sd.lt) sd.le⟩
theorem RSz.nadd {k l : Nat} {a b : Rat} (ha : RSz k a) (hb : RSz l b) (hk : k + l + 1 ≤ 10000) : Sz (k + l + 1) (a.num * b.den + b.num * a.den) :=
  (ha.num.mul hb.den (by omega)).add (by rw [Nat.add_comm]; exact hb.num.mul ha.den (by omega)) hk
theorem RSz.nsub {k l : Nat} {a b : Rat} (ha : RSz k a) (hb : RSz l b) (hk : k + l + 1 ≤ 10000) : Sz (k + l + 1) (a.num * b.den + -b.num * a.den) :=
  (ha.num.mul hb.den (by omega)).add (by rw [Nat.add_comm]; exact hb.num.neg.mul ha.den (by omega)) hk
theorem RSz.dmul {k l : Nat} {a b : Rat} (ha : RSz k a) (hb : RSz l b) (hk : k + l + 1 ≤ 10000) : Sz (k + l + 1) ((a.den : Int) * b.den) :=
  (ha.den.mul hb.den (by omega)).mono (by omega) hk
theorem RSz.add {k l : Nat} {a b : Rat} (ha : RSz k a) (hb : RSz l b) (hk : k + l + 1 ≤ 10000) : RSz (k + l + 1) (a + b) := by
  rw [← q_add]; exact RSz.divInt (ha.nadd hb hk) (ha.dmul hb hk) (Int.mul_ne_zero (den_ne a) (den_ne b))
theorem RSz.sub {k l : Nat} {a b : Rat} (ha : RSz k a) (hb : RSz l b) (hk : k + l + 1 ≤ 10000) : RSz (k + l + 1) (a - b) := by
  rw [← q_sub]; exact RSz.divInt (ha.nsub hb hk) (ha.dmul hb hk) (Int.mul_ne_zero (den_ne a) (den_ne b))
theorem RSz.mul {k l : Nat} {a b : Rat} (ha : RSz k a) (hb : RSz l b) (hk : k + l ≤ 10000) : RSz (k + l) (a * b) := by
  rw [← q_mul]; exact RSz.divInt (ha.num.mul hb.num hk) (ha.den.mul hb.den hk) (Int.mul_ne_zero (den_ne a) (den_ne b))
theorem RSz.neg {k : Nat} {a : Rat} (ha : RSz k a) : RSz k (-a) := ⟨by rw [Rat.neg_num]; exact ha.num.neg, by rw [Rat.neg_den]; exact ha.den⟩
theorem num_ne {b : Rat} (h : b ≠ 0) : b.num ≠ 0 := fun h2 => h (by rwa [Rat.num_eq_zero] at h2)
theorem RSz.div {k l : Nat} {a b : Rat} (ha : RSz k a) (hb : RSz l b) (hk : k + l ≤ 10000) (h0 : b ≠ 0) : RSz (k + l) (a / b) := by
  rw [← q_div]; exact RSz.divInt (ha.num.mul hb.den hk) (ha.den.mul hb.num hk) (Int.mul_ne_zero (den_ne a) (num_ne h0))
theorem RSz.whole {k : Nat} {n : Int} (h : Sz k n) (hk : 1 ≤ k) : RSz k (n : Rat) := ⟨h, by rw [show ((n : Rat).den : Int) = 1 from rfl]; exact (Sz.of (by decide) (by decide : 1 ≤ 10000)).mono hk h.le⟩
theorem q_whole (n : Int) : Rat.divInt n 1 = (n : Rat) := by
  rw [show (1 : Int) = ((1 : Nat) : Int) from rfl, Rat.divInt_ofNat]
  exact Rat.mkRat_one n
/-- The sign of a fraction. -/
theorem rsgn_zero {b : Rat} (h : b = 0) : sgn b.num = 0 := by subst h; rfl
theorem rsgn_ne {b : Rat} (h : b ≠ 0) : sgn b.num ≠ 0 := by
  have := num_ne h
  unfold sgn; split
  · decide
  · split
    · decide
    · omega
end Go.Proofs.YtclmenpclkmfeaaDoor
namespace Go.Proofs.YtclmenpclkmfeaaDoor
open Go.RowKit Go.Maps
/-- What Consistent returns. -/
def Cons (L : List (Nat × Nat)) (z : Int) : Prop := OkR L ∧ ∀ k, k < L.length → z % ((L.getD k (0, 0)).1 : Nat) = ((L.getD k (0, 0)).2 : Nat)
def RetCs (w : World) (L : List (Nat × Nat)) (z : Int) (e : Ending) (w' : World) : Prop := ∃ v, e = .returned (.bool v) ∧ Below w.heap.size w w' ∧ Hid (v = true ↔ Cons L z)
set_option maxRecDepth 1000000 in
set_option maxHeartbeats 8000000 in
theorem cons_z (A : Option Addr) (n c : Nat) (L : List (Nat × Nat)) (ga : Bool) (Aa : Option Addr) (na ca : Nat) {z : Int} (w : World) (h : ResL w A n L) (ha : IsInt w ga Aa na ca z) (hn : n ≤ 1000) (hT : TabW w) (h5 : TabN w.heap.size) :
    Calls Tryd.prog 20 #[.slice A n c, .agg #[.bool ga, .slice Aa na ca]] w (RetCs w L z) := by
  have B0 := (Below.refl w.heap.size w).alloc (Nat.le_refl _) (.cells #[.bool ga, .slice Aa na ca] 28)
  have X0 := Slot2.new w (.bool ga) (.slice Aa na ca) 28
  have I0 := ha.below B0
  have H0 := h.below B0
  have hlen := h.len
  have HTab := Lib.hid (tab_z A n c L _ H0 hn (hT.below B0 h5) (h5.le B0.size))
  clear h hT h5 ha
  go_enter Tryd.func20, Tryd.ntmps20
  generalize hW : w.alloc (.cells #[.bool ga, .slice Aa na ca] 28) = W0 at *
  go_wp2_with fail
  try rw [hW]
  clear hW
  (with_reducible refine HTab.out.mono ?_)
  clear HTab
  rintro e w1 ⟨hb1, ⟨Ap, cp, rfl, hown, hrow, hok⟩ | ⟨rfl, hno⟩⟩
  case' inr =>
    have b2 := hb1.alloc hb1.size (.cells #[.slice none 0 0, .map none] 75)
    go_wp2_with fail
    go_ret
    exact ⟨_, rfl, B0.trans (b2.mono B0.size), ⟨(fun h => by cases h), fun h => absurd h.1 hno.out⟩⟩
  have b2 := hb1.alloc hb1.size (.cells #[.slice Ap n cp, .map (some (W0.heap.size + 1))] 75)
  replace X0 := X0.after b2
  replace I0 := I0.below b2
  replace H0 := H0.below b2
  replace B0 := B0.trans (b2.mono B0.size)
  clear hb1 b2 hown hrow
  go_upto_region 4 with (fail)
  generalize w1.alloc (.cells #[.slice Ap n cp, .map (some (W0.heap.size + 1))] 75) = W1 at *
  go_wp2_with fail
  go_loopw [18] (fun s18 wr => ∃ k : Nat, k ≤ n ∧ s18 = .int .i64 k ∧ ResL wr A n L ∧ Slot2 wr w.heap.size (.bool ga) (.slice Aa na ca) ∧ IsInt wr ga Aa na ca z ∧ Below w.heap.size w wr ∧ Hid (∀ i, i < k → z % ((L.getD i (0, 0)).1 : Nat) = ((L.getD i (0, 0)).2 : Nat))) (fun s18 _ => n - (intOf s18).toNat)
  case atStart => exact ⟨0, Nat.zero_le _, rfl, H0, X0, I0, B0, fun i h => absurd h (by omega)⟩
  case round =>
    clear H0 X0 I0 B0
    obtain ⟨k, hk, rfl, H, X, I, B, hI⟩ := hrel
    rcases Nat.lt_or_ge k n with hkn | hkn
    · have hkl : k < L.length := by rw [hlen]; exact hkn
      obtain ⟨b, q, rfl, hb, hc⟩ := H.rd (by omega)
      obtain ⟨c0, c1⟩ := hc k hkn
      obtain ⟨p, hp⟩ : ∃ p, (L.getD k (0, 0)).1 = p := ⟨_, rfl⟩
      obtain ⟨v, hv⟩ : ∃ v, (L.getD k (0, 0)).2 = v := ⟨_, rfl⟩
      have hbd := hok.out.bound _ (getD_mem hkl)
      rw [hp, hv] at hbd
      rw [hp] at c0
      rw [hv] at c1
      obtain ⟨hvp, hpl, hpf⟩ := hbd
      have hp2 := (primeF_lt hpf).2
      clear hpf
      obtain ⟨r, hr⟩ : ∃ r : Nat, z % (p : Int) = (r : Int) := ⟨(z % (p : Int)).toNat, by have := Int.emod_nonneg z (show (p : Int) ≠ 0 by omega); omega⟩
      have HR := Lib.hid hr
      have HP := Lib.hid hp
      have HV := Lib.hid hv
      have a1 := (Below.refl wr.heap.size wr).alloc (Nat.le_refl _) (.cells #[.int .u64 (p : Int), .int .u64 (v : Int)] 41)
      have S1 := Slot2.new wr (.int .u64 (p : Int)) (.int .u64 (v : Int)) 41
      have X1 := X.after a1
      have I1 := I.below a1
      have H1 := H.below a1
      have B1 := B.trans (a1.mono B.size)
      clear hr hp hv hc hb H X I B a1
      go_upto_region 7 with (fail)
      clear c0 c1
      obtain ⟨gr, hgr⟩ : ∃ gr, gr = wr.heap.size := ⟨_, rfl⟩
      rw [← hgr] at S1 ⊢
      generalize wr.alloc (.cells #[.int .u64 (p : Int), .int .u64 (v : Int)] 41) = W7 at *
      clear hgr
      have HS : Hid (∀ V, Below W7.heap.size W7 V → (V.cell? ⟨gr, 0, none⟩ = some (.int .u64 (p : Int)) ∧ V.cell? ⟨gr, 1, none⟩ = some (.int .u64 (v : Int))) ∧ (V.cell? ⟨w.heap.size, 0, none⟩ = some (.bool ga) ∧ V.cell? ⟨w.heap.size, 1, none⟩ = some (.slice Aa na ca))) := fun V hV => ⟨⟨(S1.after hV).1, (S1.after hV).2.1⟩, (X1.after hV).1, (X1.after hV).2.1⟩
      by_cases hvr : (v : Int) = (r : Int)
      · obtain rfl : v = r := by omega
        have Dr0 : Below W7.heap.size W7 W7.drew := (Below.refl _ _).drew
        refine wp_region_seq (.pre [(0, true), (1, true), (2, true), (3, true), (4, true), (5, true), (6, false), (7, true), (8, true)] .done) (fun W => (W.cell? ⟨gr, 0, none⟩ = some (.int .u64 (p : Int)) ∧ W.cell? ⟨gr, 1, none⟩ = some (.int .u64 (v : Int))) ∧ (W.cell? ⟨w.heap.size, 0, none⟩ = some (.bool ga) ∧ W.cell? ⟨w.heap.size, 1, none⟩ = some (.slice Aa na ca))) (by kernel_rfl) (by kernel_rfl) ?_ (by kernel_rfl) (HS.out _ Dr0) ?_
        · refine chk_pre _ _ _ (by as_aux_lemma => kernel_rfl) ?_
          exact (by as_aux_lemma => kernel_rfl)
        refine seq_take _ ?_ rfl (Or.inl ⟨by rfl, ?_⟩) ?_
        rotate_left
        · (intro w hSw; (try dsimp only at hSw); go_simp; (try with_reducible rfl))
        try simp only [Act.put, List.setIfInBounds_toArray, List.set_cons_zero, List.set_cons_succ]
        refine seq_take _ ?_ rfl (Or.inl ⟨by rfl, ?_⟩) ?_
        rotate_left
        · (intro w hSw; (try dsimp only at hSw); go_simp; (try with_reducible rfl))
        try simp only [Act.put, List.setIfInBounds_toArray, List.set_cons_zero, List.set_cons_succ]
        refine seq_take _ ?_ rfl (Or.inl ⟨by rfl, ?_⟩) ?_
        rotate_left
        · (intro w hSw; (try dsimp only at hSw); go_simp; (try with_reducible rfl))
        try simp only [Act.put, List.setIfInBounds_toArray, List.set_cons_zero, List.set_cons_succ]
        refine seq_take _ ?_ rfl (Or.inl ⟨by rfl, ?_⟩) ?_
        rotate_left
        · (intro w hSw; (try dsimp only at hSw); go_simp; (try with_reducible rfl))
        try simp only [Act.put, List.setIfInBounds_toArray, List.set_cons_zero, List.set_cons_succ]
        refine seq_take _ ?_ rfl (Or.inl ⟨by rfl, ?_⟩) ?_
        rotate_left
        · (intro w hSw; (try dsimp only at hSw); go_simp; (try with_reducible rfl))
        try simp only [Act.put, List.setIfInBounds_toArray, List.set_cons_zero, List.set_cons_succ]
        refine seq_take _ ?_ rfl (Or.inl ⟨by rfl, ?_⟩) ?_
        rotate_left
        · (intro w hSw; (try dsimp only at hSw); go_simp; (try with_reducible rfl))
        try simp only [Act.put, List.setIfInBounds_toArray, List.set_cons_zero, List.set_cons_succ]
        refine seq_one _ rfl fun K hK => ?_
        go_simp
        (with_reducible refine (mred_r p v hp2 hpl (I1.below Dr0) HR.out).mono ?_)
        rintro e vr1 ⟨rfl, br1⟩
        have Dr1 : Below W7.heap.size W7 vr1 := Below.trans Dr0 (br1.mono (Below.size Dr0))
        go_wp2_with fail
        refine hK.out _ _ (HS.out _ Dr1) (fun hHeld => ?_)
        clear hK K hHeld
        try simp only [Act.put, List.setIfInBounds_toArray, List.set_cons_zero, List.set_cons_succ]
        refine seq_take _ ?_ rfl (Or.inl ⟨by rfl, ?_⟩) ?_
        rotate_left
        · (intro w hSw; (try dsimp only at hSw); go_simp; (try with_reducible rfl))
        try simp only [Act.put, List.setIfInBounds_toArray, List.set_cons_zero, List.set_cons_succ]
        refine seq_take _ ?_ rfl (Or.inl ⟨by rfl, ?_⟩) ?_
        rotate_left
        · (intro w hSw; (try dsimp only at hSw); go_simp; (try with_reducible rfl))
        try simp only [Act.put, List.setIfInBounds_toArray, List.set_cons_zero, List.set_cons_succ]
        refine NoPanic.normal ?_
        replace B1 := B1.trans (Dr1.mono B1.size)
        go_wp2_with fail
        go_roundw
        case rel =>
          refine ⟨k + 1, by omega, by go_num, H1.below Dr1, X1.after Dr1, I1.below Dr1, B1, ?_⟩
          intro i hi
          rcases Nat.lt_or_ge i k with h1 | h1
          · exact hI.out i h1
          · obtain rfl : i = k := by omega
            rw [HP.out, HV.out, HR.out]
        case measure => simp [intOf]; omega
      · have HVR := Lib.hid hvr
        have Dr0 : Below W7.heap.size W7 W7.drew := (Below.refl _ _).drew
        refine wp_region_seq (.pre [(0, true), (1, true), (2, true), (3, true), (4, true), (5, true), (6, false), (7, true), (8, true)] .done) (fun W => (W.cell? ⟨gr, 0, none⟩ = some (.int .u64 (p : Int)) ∧ W.cell? ⟨gr, 1, none⟩ = some (.int .u64 (v : Int))) ∧ (W.cell? ⟨w.heap.size, 0, none⟩ = some (.bool ga) ∧ W.cell? ⟨w.heap.size, 1, none⟩ = some (.slice Aa na ca))) (by kernel_rfl) (by kernel_rfl) ?_ (by kernel_rfl) (HS.out _ Dr0) ?_
        · refine chk_pre _ _ _ (by as_aux_lemma => kernel_rfl) ?_
          exact (by as_aux_lemma => kernel_rfl)
        refine seq_take _ ?_ rfl (Or.inl ⟨by rfl, ?_⟩) ?_
        rotate_left
        · (intro w hSw; (try dsimp only at hSw); go_simp; (try with_reducible rfl))
        try simp only [Act.put, List.setIfInBounds_toArray, List.set_cons_zero, List.set_cons_succ]
        refine seq_take _ ?_ rfl (Or.inl ⟨by rfl, ?_⟩) ?_
        rotate_left
        · (intro w hSw; (try dsimp only at hSw); go_simp; (try with_reducible rfl))
        try simp only [Act.put, List.setIfInBounds_toArray, List.set_cons_zero, List.set_cons_succ]
        refine seq_take _ ?_ rfl (Or.inl ⟨by rfl, ?_⟩) ?_
        rotate_left
        · (intro w hSw; (try dsimp only at hSw); go_simp; (try with_reducible rfl))
        try simp only [Act.put, List.setIfInBounds_toArray, List.set_cons_zero, List.set_cons_succ]
        refine seq_take _ ?_ rfl (Or.inl ⟨by rfl, ?_⟩) ?_
        rotate_left
        · (intro w hSw; (try dsimp only at hSw); go_simp; (try with_reducible rfl))
        try simp only [Act.put, List.setIfInBounds_toArray, List.set_cons_zero, List.set_cons_succ]
        refine seq_take _ ?_ rfl (Or.inl ⟨by rfl, ?_⟩) ?_
        rotate_left
        · (intro w hSw; (try dsimp only at hSw); go_simp; (try with_reducible rfl))
        try simp only [Act.put, List.setIfInBounds_toArray, List.set_cons_zero, List.set_cons_succ]
        refine seq_take _ ?_ rfl (Or.inl ⟨by rfl, ?_⟩) ?_
        rotate_left
        · (intro w hSw; (try dsimp only at hSw); go_simp; (try with_reducible rfl))
        try simp only [Act.put, List.setIfInBounds_toArray, List.set_cons_zero, List.set_cons_succ]
        refine seq_one _ rfl fun K hK => ?_
        go_simp
        (with_reducible refine (mred_r p r hp2 hpl (I1.below Dr0) HR.out).mono ?_)
        rintro e vr1 ⟨rfl, br1⟩
        have Dr1 : Below W7.heap.size W7 vr1 := Below.trans Dr0 (br1.mono (Below.size Dr0))
        go_wp2_with fail
        refine hK.out _ _ (HS.out _ Dr1) (fun hHeld => ?_)
        clear hK K hHeld
        try simp only [Act.put, List.setIfInBounds_toArray, List.set_cons_zero, List.set_cons_succ]
        refine seq_take _ ?_ rfl (Or.inl ⟨by rfl, ?_⟩) ?_
        rotate_left
        · (intro w hSw; (try dsimp only at hSw); go_simp; (try with_reducible rfl))
        try simp only [Act.put, List.setIfInBounds_toArray, List.set_cons_zero, List.set_cons_succ]
        refine seq_take _ ?_ rfl (Or.inl ⟨by rfl, ?_⟩) ?_
        rotate_left
        · (intro w hSw; (try dsimp only at hSw); go_simp; (try with_reducible rfl))
        try simp only [Act.put, List.setIfInBounds_toArray, List.set_cons_zero, List.set_cons_succ]
        refine NoPanic.normal ?_
        go_wp2_with fail
        go_ret
        refine ⟨_, rfl, B1.trans (Dr1.mono B1.size), ⟨(fun h => by cases h), fun h => ?_⟩⟩
        have := h.2 k hkl
        rw [HP.out, HV.out, HR.out] at this
        exact absurd this.symm HVR.out
    · obtain rfl : k = n := by omega
      go_wp2_with fail
      go_ret
      exact ⟨_, rfl, B, ⟨fun _ => ⟨hok.out, fun i hi => hI.out i (by omega)⟩, fun _ => rfl⟩⟩
end Go.Proofs.YtclmenpclkmfeaaDoor
namespace Go.Proofs.YtclmenpclkmfeaaDoor
open Go.RowKit Go.Maps
theorem prod_0 (c : Nat) (w : World) : Calls Tryd.prog 38 #[.slice none 0 c] w (RetInt w 1) := by
  have B0 := (Below.refl w.heap.size w).alloc (Nat.le_refl _) (.cells #[.bool false, .slice none 0 0] 28)
  have R0 := Slot2.new w (.bool false) (.slice none 0 0) 28
  go_enter Tryd.func38, Tryd.ntmps38
  go_wp2_with fail
  (with_reducible refine (of_any 1 _ (by decide) (by decide)).mono ?_)
  rintro e w1 ⟨g5, A5, n5, c5, rfl, hi5, hb1⟩
  have R1 := R0.after hb1
  have B1 := B0.trans (hb1.mono B0.size)
  clear R0 B0 hb1
  have ⟨q0, q1, q2, q3, _⟩ := R1
  go_wp2
  exact bodyPost_ret (v := .agg #[.bool g5, .slice A5 n5 c5]) (by simp [results, Tryd.results38, go_sem, q0, q1]) rfl ⟨_, _, _, _, rfl, hi5.stored q0 q1 rfl rfl _ _, Below.set2 B1 (by omega) _ _⟩
theorem prod_1 (b o c p : Nat) (w : World) (hb : b < w.heap.size) (hc : w.cell? ⟨b, o, none⟩ = some (.int .u64 (p : Int))) (hp : p ≤ 9223372036854775807) : Calls Tryd.prog 38 #[.slice (some ⟨b, o, none⟩) 1 c] w (RetInt w (p : Int)) := by
  have B0 := (Below.refl w.heap.size w).alloc (Nat.le_refl _) (.cells #[.bool false, .slice none 0 0] 28)
  have R0 := Slot2.new w (.bool false) (.slice none 0 0) 28
  have hc0 := (B0.cell (p := ⟨b, o, none⟩) hb).trans hc
  go_enter Tryd.func38, Tryd.ntmps38
  go_wp2_with fail
  (with_reducible refine (natural_z p _ hp).mono ?_)
  rintro e w1 ⟨g5, A5, n5, c5, rfl, hi5, hb1⟩
  have R1 := R0.after hb1
  have B1 := B0.trans (hb1.mono B0.size)
  clear R0 B0 hb1
  have ⟨q0, q1, q2, q3, _⟩ := R1
  go_wp2
  exact bodyPost_ret (v := .agg #[.bool g5, .slice A5 n5 c5]) (by simp [results, Tryd.results38, go_sem, q0, q1]) rfl ⟨_, _, _, _, rfl, hi5.stored q0 q1 rfl rfl _ _, Below.set2 B1 (by omega) _ _⟩
set_option maxRecDepth 100000 in
set_option maxHeartbeats 2000000 in
theorem prod_2 (b o p q : Nat) (w : World) (hb : b < w.heap.size) (hc : w.cell? ⟨b, o, none⟩ = some (.int .u64 (p : Int))) (hd : w.cell? ⟨b, o + 2, none⟩ = some (.int .u64 (q : Int))) (hp : p < 4294967296) (hq : q < 4294967296) : Calls Tryd.prog 38 #[.slice (some ⟨b, o, none⟩) 2 2] w (RetInt w ((p : Int) * q)) := by
  have B0 := (Below.refl w.heap.size w).alloc (Nat.le_refl _) (.cells #[.bool false, .slice none 0 0] 28)
  have R0 := Slot2.new w (.bool false) (.slice none 0 0) 28
  have hb0 : b < (w.alloc (.cells #[.bool false, .slice none 0 0] 28)).heap.size := Nat.lt_of_lt_of_le hb B0.size
  have HC0 := Lib.hid ((B0.cell (p := ⟨b, o, none⟩) hb).trans hc)
  have HD0 := Lib.hid ((B0.cell (p := ⟨b, o + 2, none⟩) hb).trans hd)
  have Sp : Sz 1 (p : Int) := Sz.of (by rw [Int.natAbs_natCast]; omega) (by decide)
  have Sq : Sz 1 (q : Int) := Sz.of (by rw [Int.natAbs_natCast]; omega) (by decide)
  clear hc hd
  go_enter Tryd.func38, Tryd.ntmps38
  go_upto_region 7 with (fail)
  generalize w.alloc (.cells #[.bool false, .slice none 0 0] 28) = W0 at *
  have HS : Hid (∀ V, Below W0.heap.size W0 V → True) := fun _ _ => trivial
  have Dr0 : Below W0.heap.size W0 W0.drew := (Below.refl _ _).drew
  refine wp_region_seq (.pre [(0, true), (1, true), (2, true), (4, true), (5, true), (6, true), (3, false), (7, false), (8, false), (9, false)] .done) (fun W => True) (by kernel_rfl) (by kernel_rfl) ?_ (by kernel_rfl) (HS.out _ Dr0) ?_
  · refine chk_pre _ _ _ (by as_aux_lemma => kernel_rfl) ?_
    exact (by as_aux_lemma => kernel_rfl)
  refine seq_take _ ?_ rfl (Or.inl ⟨by rfl, ?_⟩) ?_
  rotate_left
  · (intro w hSw; (try dsimp only at hSw); go_simp; (try with_reducible rfl))
  try simp only [Act.put, List.setIfInBounds_toArray, List.set_cons_zero, List.set_cons_succ]
  refine seq_take _ ?_ rfl (Or.inl ⟨by rfl, ?_⟩) ?_
  rotate_left
  · (intro w hSw; (try dsimp only at hSw); go_simp; (try with_reducible rfl))
  try simp only [Act.put, List.setIfInBounds_toArray, List.set_cons_zero, List.set_cons_succ]
  refine seq_take _ ?_ rfl (Or.inl ⟨by rfl, ?_⟩) ?_
  rotate_left
  · (intro w hSw; (try dsimp only at hSw); go_simp; (try with_reducible rfl))
  try simp only [Act.put, List.setIfInBounds_toArray, List.set_cons_zero, List.set_cons_succ]
  refine seq_take _ ?_ rfl (Or.inl ⟨by rfl, ?_⟩) ?_
  rotate_left
  · (intro w hSw; (try dsimp only at hSw); go_simp; (try with_reducible rfl))
  try simp only [Act.put, List.setIfInBounds_toArray, List.set_cons_zero, List.set_cons_succ]
  refine seq_take _ ?_ rfl (Or.inl ⟨by rfl, ?_⟩) ?_
  rotate_left
  · (intro w hSw; (try dsimp only at hSw); go_simp; (try with_reducible rfl))
  try simp only [Act.put, List.setIfInBounds_toArray, List.set_cons_zero, List.set_cons_succ]
  refine seq_take _ ?_ rfl (Or.inl ⟨by rfl, ?_⟩) ?_
  rotate_left
  · (intro w hSw; (try dsimp only at hSw); go_simp; (try with_reducible rfl))
  try simp only [Act.put, List.setIfInBounds_toArray, List.set_cons_zero, List.set_cons_succ]
  refine seq_one _ rfl fun K hK => ?_
  go_simp
  (with_reducible refine (prod_1 b o 2 p _ (Nat.lt_of_lt_of_le hb0 Dr0.size) ((Dr0.cell (p := ⟨b, o, none⟩) hb0).trans HC0.out) (by omega)).mono ?_)
  rintro e vr1 ⟨gr1, Ar1, nr1, cr1, rfl, ir1, br1⟩
  have Dr1 : Below W0.heap.size W0 vr1 := Below.trans Dr0 (br1.mono (Below.size Dr0))
  go_wp2_with fail
  refine hK.out _ _ (HS.out _ Dr1) (fun hHeld => ?_)
  clear hK K hHeld
  try simp only [Act.put, List.setIfInBounds_toArray, List.set_cons_zero, List.set_cons_succ]
  refine seq_one _ rfl fun K hK => ?_
  go_simp
  (with_reducible refine (prod_1 b (o + 2) 1 q _ (Nat.lt_of_lt_of_le hb0 Dr1.size) ((Dr1.cell (p := ⟨b, o + 2, none⟩) hb0).trans HD0.out) (by omega)).mono ?_)
  rintro e vr2 ⟨gr2, Ar2, nr2, cr2, rfl, ir2, br2⟩
  have Dr2 : Below W0.heap.size W0 vr2 := Below.trans Dr1 (br2.mono (Below.size Dr1))
  go_wp2_with fail
  refine hK.out _ _ (HS.out _ Dr2) (fun hHeld => ?_)
  clear hK K hHeld
  try simp only [Act.put, List.setIfInBounds_toArray, List.set_cons_zero, List.set_cons_succ]
  refine seq_one _ rfl fun K hK => ?_
  go_simp
  (with_reducible refine (mul_z' gr1 gr2 Ar1 Ar2 nr1 cr1 nr2 cr2 _ (ir1.below br2) ir2 Sp Sq).mono ?_)
  rintro e vr3 ⟨gr3, Ar3, nr3, cr3, rfl, ir3, br3⟩
  have Dr3 : Below W0.heap.size W0 vr3 := Below.trans Dr2 (br3.mono (Below.size Dr2))
  go_wp2_with fail
  refine hK.out _ _ (HS.out _ Dr3) (fun hHeld => ?_)
  clear hK K hHeld
  try simp only [Act.put, List.setIfInBounds_toArray, List.set_cons_zero, List.set_cons_succ]
  refine seq_one _ rfl fun K hK => ?_
  have R1 := R0.after Dr3
  have ⟨r0', r1', r2', r3', _⟩ := R1
  go_simp
  refine hK.out _ _ (trivial) (fun hHeld => ?_)
  clear hK K hHeld
  try simp only [Act.put, List.setIfInBounds_toArray, List.set_cons_zero, List.set_cons_succ]
  refine NoPanic.normal ?_
  go_wp2
  have hs := R0.after Dr3
  have ⟨q0, q1, _, _, _⟩ := hs
  exact bodyPost_ret (v := .agg #[.bool gr3, .slice Ar3 nr3 cr3]) (by simp [results, Tryd.results38, go_sem, q0, q1]) rfl ⟨_, _, _, _, rfl, ir3.set2 hs rfl rfl _ _, Below.set2 (B0.trans (Dr3.mono B0.size)) (Nat.le_refl _) _ _⟩
end Go.Proofs.YtclmenpclkmfeaaDoor
