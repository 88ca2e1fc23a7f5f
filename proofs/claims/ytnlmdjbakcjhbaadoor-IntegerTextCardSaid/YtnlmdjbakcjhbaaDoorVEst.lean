/- Contract of torsionref01.estimate. -/
import Derived.Test.YtnlmdjbakcjhbaaDoorVG3Made
import Derived.Test.YtnlmdjbakcjhbaaDoorVRDivA
namespace Go.Proofs.YtnlmdjbakcjhbaaDoor
open Go.RowKit
/-- A block of limbs of the call's own is an owned row. -/
theorem Row.own {w : World} {g : Nat} {xs : List Nat} (h : Row w g xs) {base n : Nat} (hb : base ≤ g) (hl : xs.length = n) (hn : n ≤ 1000000) : Own w base (.slice (some ⟨g, 0, none⟩) n n) n xs :=
  ⟨by rw [ints_len, hl, Nat.mul_one], .inr ⟨g, n, (ints xs).toArray, rfl, hb, h, Nat.le_refl _, by unfold maxLen; omega, by simp [ints, hl], by rw [Nat.mul_one, List.take_of_length_le (by simp [ints, hl])]⟩⟩
theorem two_limbs (wr : World) (g : Nat) (hg : wr.heap.size = g) (a b : Nat) (ha : a < 4294967296) (hb : b < 4294967296) (u v : Int) (hu : u = (a : Int)) (hv : v = (b : Int)) :
    Lim (wr.alloc (.cells #[.int .u32 u, .int .u32 v] 67)) (g + 1) (some ⟨g, 0, none⟩) 2 2 [a, b] := by
  subst hu hv hg
  have := (row_new wr [a, b] _ rfl).len_lim (by intro z hz; simp at hz; omega) 2 rfl (by omega)
  rwa [World.size_alloc] at this
theorem val_two' (k t : Nat) : val (List.replicate k 0 ++ [t % 4294967296, t / 4294967296]) = t * 4294967296 ^ k := by
  rw [val_append, val_zeros, List.length_replicate, Nat.zero_add, Nat.mul_comm]
  congr 1
  simp only [val]; omega
theorem made_row (w : World) (o : Obj) (q k : Nat) : Row (((w.alloc o).drewN q).alloc (.cells (madeCells #[.int .u32 0] k) 67)) (w.heap.size + 1) (List.replicate k 0) := by
  have h := Row.made ((w.alloc o).drewN q) k
  rwa [show ((w.alloc o).drewN q).heap.size = w.heap.size + 1 by simp] at h
/-- An estimate of the quotient comes back. -/
def RetEst (w : World) (r d : Nat) (e : Ending) (w' : World) : Prop := ∃ s : Nat, RetInt w (s : Int) e w' ∧ 1 ≤ s ∧ s * d ≤ r
set_option maxRecDepth 100000 in
set_option maxHeartbeats 2000000 in
theorem est_eq (A A' : Option Addr) (m c d r dd : Nat) (w : World) (ha : Lim w w.heap.size A (m + 1) c (digs r)) (hb : Lim w w.heap.size A' (m + 1) d (digs dd)) (hn : m ≤ 100000) (hle : dd ≤ r) :
    Calls Tryd.prog 96 #[.slice A (m + 1) c, .slice A' (m + 1) d] w (RetEst w r dd) := by
  have HE := Lib.hid (est_zero ha.len hb.len hle)
  have HB : Below w.heap.size w (w.alloc (.cells #[.bool false, .slice none 0 0] 27)) := (Below.refl _ _).alloc (Nat.le_refl _) _
  have R0 := Slot2.new w (.bool false) (.slice none 0 0) 27
  obtain ⟨ad, rfl, _, x, hx, hxl, hcx⟩ := (ha.below HB).at_ (k := m) (by omega)
  obtain ⟨ad', rfl, _, y, hy, hyl, hcy⟩ := (hb.below HB).at_ (k := m) (by omega)
  rw [← hx.out, ← hy.out] at HE
  have hmc := ha.cap
  have hmd := hb.cap
  obtain ⟨t, ht⟩ : ∃ t, t = x / (y + 1) := ⟨_, rfl⟩
  have htl : t < 4294967296 := by rw [ht]; exact Nat.lt_of_le_of_lt (Nat.div_le_self _ _) hxl
  have e1 : (x : Int) / ((y : Int) + 1) = (t : Int) := by rw [ht, Int.natCast_ediv]; rfl
  rw [← ht] at HE
  clear ht ha hb
  have b1 : ((y : Int) + 1 == 0) = false := by simp; omega
  have i1 : ((m + 1 : Nat) : Int) - 1 = (m : Int) := by omega
  have i2 : ((m + 1 : Nat) : Int) - ((m + 1 : Nat) : Int) = 0 := by omega
  rcases Nat.lt_or_ge 1 t with h1 | h1
  · go_enter Tryd.func96, Tryd.ntmps96
    go_wp2
    go_quiet (fail)
    go_wp2_with fail
    try rw [show max (1 : Int) (t : Int) = (t : Int) by omega]
    refine (rof_any (t : Int) _ (by omega) (by omega)).mono ?_
    rintro e w2 ⟨g2, A2, n2, c2, rfl, hi2, hb2⟩
    obtain ⟨k0, k1, _, _, _⟩ := (R0.drewN nq).after hb2
    go_wp2
    exact bodyPost_ret (v := .agg #[.bool g2, .slice A2 n2 c2]) (by simp [results, Tryd.results96, go_sem, k0, k1]) rfl
      ⟨_, RetInt.stored hi2 (Below.drewN' HB _) hb2 (Nat.le_refl _) k0 k1 rfl rfl, by omega, by have := HE.out; rwa [Nat.max_eq_right (by omega)] at this⟩
  · go_enter Tryd.func96, Tryd.ntmps96
    go_wp2
    go_quiet (fail)
    go_wp2_with fail
    try rw [show max (1 : Int) (t : Int) = 1 by omega]
    refine (rof_any 1 _ (by omega) (by omega)).mono ?_
    rintro e w2 ⟨g2, A2, n2, c2, rfl, hi2, hb2⟩
    obtain ⟨k0, k1, _, _, _⟩ := (R0.drewN nq).after hb2
    go_wp2
    exact bodyPost_ret (v := .agg #[.bool g2, .slice A2 n2 c2]) (by simp [results, Tryd.results96, go_sem, k0, k1]) rfl
      ⟨1, RetInt.stored hi2 (Below.drewN' HB _) hb2 (Nat.le_refl _) k0 k1 rfl rfl, by omega, by rw [Nat.one_mul]; exact hle⟩
set_option maxRecDepth 100000 in
set_option maxHeartbeats 2000000 in
theorem est_gt (A A' : Option Addr) (m k c d r dd : Nat) (w : World) (ha : Lim w w.heap.size A (m + 1 + (k + 1)) c (digs r)) (hb : Lim w w.heap.size A' (m + 1) d (digs dd)) (hn : m + k ≤ 100000) :
    Calls Tryd.prog 96 #[.slice A (m + 1 + (k + 1)) c, .slice A' (m + 1) d] w (RetEst w r dd) := by
  have HE := Lib.hid (est_more ha.len hb.len)
  have HB : Below w.heap.size w (w.alloc (.cells #[.bool false, .slice none 0 0] 27)) := (Below.refl _ _).alloc (Nat.le_refl _) _
  have R0 := Slot2.new w (.bool false) (.slice none 0 0) 27
  obtain ⟨ad', e', _, y, hy, hyl, hcy⟩ := (hb.below HB).at_ (k := m) (by omega)
  obtain ⟨ad, e, _, x, hx, hxl, hcx⟩ := (ha.below HB).at_ (k := m + k + 1) (by omega)
  subst e e'
  obtain ⟨_, e, _, x2, hx2, hxl2, hcx2⟩ := (ha.below HB).at_ (k := m + k) (by omega)
  obtain rfl := Option.some.inj e
  have hcx3 := hcx
  rw [show ad.add (m + k + 1) = ⟨ad.block, ad.off + (m + k + 1), none⟩ by unfold Addr.add; exact if_neg (by omega)] at hcx3
  rw [← hx.out, ← hy.out, ← hx2.out] at HE
  have hmc := ha.cap
  have hmd := hb.cap
  obtain ⟨t, ht⟩ : ∃ t, t = (x * 4294967296 + x2) / (y + 1) := ⟨_, rfl⟩
  have htl : t < 18446744073709551616 := by rw [ht]; exact Nat.lt_of_le_of_lt (Nat.div_le_self _ _) (by omega)
  have e1 : ((x : Int) * 4294967296 + x2) / ((y : Int) + 1) = (t : Int) := by rw [ht, Int.natCast_ediv, Int.natCast_add, Int.natCast_mul]; rfl
  rw [← ht] at HE
  clear ht ha hb
  have b1 : ((y : Int) + 1 == 0) = false := by simp; omega
  have b2 : ((m : Int) + 1 + (k + 1) - (m + 1) == 0) = false := by simp; omega
  have b3 : ((k : Int) + 1 == 0) = false := by simp; omega
  have i1 : (m : Int) + 1 + (k + 1) - (m + 1) = k + 1 := by omega
  have i2 : (m : Int) + 1 + (k + 1) - 1 = m + k + 1 := by omega
  have i3 : (m : Int) + 1 + (k + 1) - 2 = m + k := by omega
  have j1 : ((m : Int) + k + 1).toNat = m + k + 1 := by omega
  have j2 : ((m : Int) + k).toNat = m + k := by omega
  go_enter Tryd.func96, Tryd.ntmps96
  go_wp2
  have w0 : IntKind.i64.wrap ((m : Int) + k + 1) = (m : Int) + k + 1 := by rw [IntKind.wrap_i64]; omega
  have w1 : IntKind.i64.wrap ((m : Int) + k) = (m : Int) + k := by rw [IntKind.wrap_i64]; omega
  have w2 : IntKind.i64.wrap ((k : Int) + 1) = (k : Int) + 1 := by rw [IntKind.wrap_i64]; omega
  have n0 : (0 : Int) ≤ (m : Int) + k + 1 := by omega
  have n1 : (m : Int) + k + 1 < (m : Int) + 1 + (k + 1) := by omega
  have n2 : (0 : Int) ≤ (m : Int) + k := by omega
  have n3 : (m : Int) + k < (m : Int) + 1 + (k + 1) := by omega
  have w3 : IntKind.u64.wrap ((x : Int) * 4294967296) = (x : Int) * 4294967296 := by rw [IntKind.wrap_u64]; omega
  have w4 : IntKind.u64.wrap ((x : Int) * 4294967296 + x2) = (x : Int) * 4294967296 + x2 := by rw [IntKind.wrap_u64]; omega
  go_quiet (fail)
  go_wp2
  go_quiet (fail)
  clear w0 w1 w2 w3 w4
  simp only [e1]
  have hmk : ∀ W : World, (Instr.makeSlice 22 (.int .i64 (k : Int)) (.int .i64 (k : Int))).run Tryd.prog W =
    .ok (.slice (some ⟨W.heap.size, 0, none⟩) k k) (W.alloc (.cells (madeCells #[.int .u32 0] k) 67)) := fun W => make_u32 k (by omega) W
  go_wp2_with (at_builtin; refine wpList_append_lim _ rfl (.tmp 57) (.tmp 63) rfl (w.heap.size + 1) (.slice (some ⟨w.heap.size + 1, 0, none⟩) k k) k (List.replicate k 0) rfl ?h1 ?h2 (w.heap.size + 1 + 1 + 1) (some ⟨w.heap.size + 1 + 1, 0, none⟩) 2 2 [t % 4294967296, t / 4294967296] rfl ?h3 ?h4 ?h5 ?h6)
  case h1 => exact ((made_row _ _ _ _).own (Nat.le_refl _) (by simp) (by omega)).keep ((Below.refl _ _).alloc (Nat.le_refl _) _)
  case h2 => exact limbs_zeros _
  case h3 => exact two_limbs _ _ (by simp) _ _ (by omega) (by omega) _ _ (by omega) (by omega)
  case h4 => omega
  case h5 => simp
  case h6 =>
    intro A1 c1 w1 hl ho hg
    have RG := (((R0.drewN _).alloc _).alloc _).grown hg (by simp [Value.ownBlock])
    have B1 : Below w.heap.size w w1 := (((Below.drewN' HB _).alloc (by simp) _).alloc (by simp; omega) _).grown hg (by simp; omega) (fun j hj => by simp [Value.ownBlock] at hj; omega)
    clear hg ho
    go_wp2_with fail
    refine (made_val false _ _ _ _ ((t * 4294967296 ^ k : Nat) : Int) _ _ hl (by simp; omega) (val_two' _ _) rfl).mono ?_
    rintro e w2 ⟨g2, A2, n2, c2, rfl, hi2, hb2⟩
    obtain ⟨k0, k1, _, _, _⟩ := RG.after hb2
    go_wp2
    exact bodyPost_ret (v := .agg #[.bool g2, .slice A2 n2 c2]) (by simp [results, Tryd.results96, go_sem, k0, k1]) rfl
      ⟨_, RetInt.stored hi2 B1 hb2 (Nat.le_refl _) k0 k1 rfl rfl, Nat.mul_pos HE.out.1 (Nat.pow_pos (by decide)), HE.out.2⟩
end Go.Proofs.YtnlmdjbakcjhbaaDoor
