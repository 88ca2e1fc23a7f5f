/- Contracts of integer.tidy, build, ofWord, Of, Abs, Neg, Clone and the like. Contracts of slices.Clone, integer.ofWord, word, words. Contracts of integer.ofWord. Contracts of integer.Of, Neg, Abs, withSign. Contracts of cmp.Compare and integer.order. Contracts of integer.word. Contracts of integer.Sign, Valid, Small, torsionref01.Sign, Valid. Contracts of integer.words, gcdOfWords. Plain mathematics: sizes of products and powers, Newton's iteration. -/
import Derived.Test.YtnlmdjbakcjhbaaDoorVG0Num
namespace Go.Proofs.YtnlmdjbakcjhbaaDoor
open Go.RowKit

theorem natAbs_val (neg : Bool) (v : Nat) : (if neg then -(v : Int) else (v : Int)).natAbs = v := by cases neg <;> simp
theorem zOf_natAbs (neg : Bool) (v : Nat) : (zOf neg v).natAbs = v := natAbs_val neg v
theorem zOf_neg (neg : Bool) (v : Nat) : decide (zOf neg v < 0) = (neg && decide (0 < v)) := by
  unfold zOf
  cases neg <;> simp <;> omega

set_option maxHeartbeats 400000 in
theorem tidy_any (neg : Bool) (A : Option Addr) (n c B : Nat) (xs : List Nat) (w : World) (ha : Lim w B A n c xs) (hB : B ≤ w.heap.size) :
    Calls Tryd.prog 65 #[.agg #[.bool neg, .slice A n c]] w fun e w' =>
      e = .returned (.agg #[.bool (decide (zOf neg (val xs) < 0)), .slice A (digs (val xs)).length (digs (val xs)).length]) ∧ Below w.heap.size w w' := by
  have HZ := Lib.hid (zOf_neg neg (val xs))
  generalize hk : (digs (val xs)).length = k
  have HK : Hid (k = 0 ↔ val xs = 0) := by subst hk; exact digs_len_zero
  have HT : ∀ W, Below w.heap.size w W → Calls Tryd.prog 54 #[.slice A n c] W fun e w' => e = .returned (.slice A k k) ∧ W = w' := by
    intro W hW
    subst hk
    exact trim_any A n c B xs W (ha.keep fun p hp => hW.cell (by omega))
  have HT' := Lib.hid HT
  clear HT hk ha
  have HB := ((Below.refl w.heap.size w).alloc (Nat.le_refl _) (.cells #[.bool neg, .slice A n c] 27)).alloc (by simp) (.cells #[.bool false, .slice none 0 0] 27)
  cases neg
  · go_enter Tryd.func65, Tryd.ntmps65
    go_wp2_with fail
    refine (HT'.out _ HB).mono ?_
    rintro e w1 ⟨rfl, rfl⟩
    go_wp2
    refine bodyPost_ret (v := .agg #[.bool false, .slice A k k]) (by simp [results, Tryd.results65, go_sem]) rfl ⟨?_, ((Below.refl _ _).alloc (Nat.le_refl _) _).alloc (by simp) _⟩
    rw [HZ.out]; rfl
  · rcases Nat.eq_zero_or_pos k with h0 | h0
    · subst h0
      have hv : decide (zOf true (val xs) < 0) = false := by rw [HZ.out, HK.out.1 rfl]; rfl
      rw [hv]
      clear hv HK HZ
      go_enter Tryd.func65, Tryd.ntmps65
      go_wp2_with fail
      refine (HT'.out _ HB).mono ?_
      rintro e w1 ⟨rfl, rfl⟩
      go_wp2
      exact bodyPost_ret (v := .agg #[.bool false, .slice A 0 0]) (by simp [results, Tryd.results65, go_sem]) rfl ⟨rfl, ((Below.refl _ _).alloc (Nat.le_refl _) _).alloc (by simp) _⟩
    · have hv : 0 < val xs := by
        rcases Nat.eq_zero_or_pos (val xs) with e | e
        · have := HK.out.2 e; omega
        · exact e
      rw [HZ.out, decide_eq_true hv]
      clear hv HK HZ
      go_enter Tryd.func65, Tryd.ntmps65
      go_wp2_with fail
      refine (HT'.out _ HB).mono ?_
      rintro e w1 ⟨rfl, rfl⟩
      go_wp2
      exact bodyPost_ret (v := .agg #[.bool true, .slice A k k]) (by simp [results, Tryd.results65, go_sem]) rfl ⟨rfl, ((Below.refl _ _).alloc (Nat.le_refl _) _).alloc (by simp) _⟩

/-- What the trimmed limbs are as an integer. -/
theorem IsInt.mk' {w : World} {B n c : Nat} {A : Option Addr} {xs : List Nat} (neg : Bool) (h : Lim w B A n c xs) (hB : B ≤ w.heap.size) :
    IsInt w (decide (zOf neg (val xs) < 0)) A (digs (val xs)).length (digs (val xs)).length (zOf neg (val xs)) :=
  ⟨rfl, by rw [zOf_natAbs]; exact h.trim.more hB⟩

theorem tidy_ret (neg : Bool) (A : Option Addr) (n c B : Nat) (xs : List Nat) (w : World) (ha : Lim w B A n c xs) (hB : B ≤ w.heap.size) :
    Calls Tryd.prog 65 #[.agg #[.bool neg, .slice A n c]] w (RetInt w (zOf neg (val xs))) :=
  (tidy_any neg A n c B xs w ha hB).mono fun _ _ ⟨he, hb⟩ =>
    ⟨_, _, _, _, he, IsInt.mk' neg (ha.keep fun p hp => hb.cell (by omega)) (Nat.le_trans hB hb.size), hb⟩

set_option maxHeartbeats 400000 in
theorem build_any (neg : Bool) (A : Option Addr) (n c B : Nat) (xs : List Nat) (w : World) (ha : Lim w B A n c xs) (hB : B ≤ w.heap.size) :
    Calls Tryd.prog 56 #[.bool neg, .slice A n c] w (RetInt w (zOf neg (val xs))) := by
  have H := fun (W : World) (hW : Below w.heap.size w W) => tidy_ret neg A n c B xs W (ha.keep fun p hp => hW.cell (by omega)) (Nat.le_trans hB hW.size)
  have HB : Below w.heap.size w (w.alloc (.cells #[.bool false, .slice none 0 0] 27)) := (Below.refl w.heap.size w).alloc (Nat.le_refl _) _
  have H' := Lib.hid H
  clear H ha
  go_enter Tryd.func56, Tryd.ntmps56
  go_wp2_with fail
  refine (H'.out _ HB).mono ?_
  rintro e w1 ⟨neg', A', n', c', rfl, hi, hb⟩
  obtain ⟨hc, hf⟩ := bcell hb
  have hs := hb.size
  simp only [World.size_alloc] at hs hc hf
  go_wp2
  exact bodyPost_ret (v := .agg #[.bool neg', .slice A' n' c']) (by simp [results, Tryd.results56, go_sem, hc]) rfl
    ⟨_, _, _, _, rfl, hi.stored (by rw [hc _ _ (by omega)]; simp; rfl) (by rw [hc _ _ (by omega)]; simp; rfl) rfl rfl _ _, ((HB.trans (hb.mono (by simp))).setCell (by simp) _).setCell (by simp) _⟩

theorem zOf_self (z : Int) : zOf (decide (z < 0)) z.natAbs = z := by
  unfold zOf
  by_cases h : z < 0 <;> simp [h] <;> omega
theorem zOf_not (z : Int) : zOf (!decide (z < 0)) z.natAbs = -z := by
  unfold zOf
  by_cases h : z < 0 <;> simp [h] <;> omega
/-- build at limbs that are those of a number. -/
theorem build_digs (neg : Bool) (A : Option Addr) (n c v : Nat) (z : Int) (w : World) (ha : Lim w w.heap.size A n c (digs v)) (hz : zOf neg v = z) :
    Calls Tryd.prog 56 #[.bool neg, .slice A n c] w (RetInt w z) := by
  have := build_any neg A n c w.heap.size (digs v) w ha (Nat.le_refl _)
  rw [val_digs, hz] at this
  exact this
end Go.Proofs.YtnlmdjbakcjhbaaDoor
namespace Go.Proofs.YtnlmdjbakcjhbaaDoor
open Go.RowKit

set_option maxHeartbeats 400000 in
theorem clone_any (A : Option Addr) (n c B : Nat) (xs : List Nat) (w : World) (ha : Lim w B A n c xs) (hB : B ≤ w.heap.size) (hn : n ≤ 1000000) :
    Calls Tryd.prog 60 #[.slice A n c] w (RetSl w xs) := by
  rcases A with _ | ad
  · have h0 : n = 0 := by
      rcases Nat.eq_zero_or_pos n with h0 | h0
      · exact h0
      · obtain ⟨ad, h, _⟩ := ha.rd h0
        cases h
    subst h0
    have hx : xs = [] := List.eq_nil_of_length_eq_zero ha.len
    subst hx
    have qT : ∀ (w : World) (a : Option Addr) (n c n' c' : Nat), (binOp .eql 22 (.slice a n c) (.slice none n' c')).run Tryd.prog w = .ok (.bool a.isNone) w := fun w a n c n' c' => Lib.run_eql_slice_nil w 22 67 a n c n' c' Tryd.underlying22
    go_enter Tryd.func60, Tryd.ntmps60
    go_wp2
    go_ret
    exact ⟨none, 0, 0, rfl, Lim.none_ (by omega), Below.refl _ _⟩
  · have qT : ∀ (w : World) (a : Option Addr) (n c n' c' : Nat), (binOp .eql 22 (.slice a n c) (.slice none n' c')).run Tryd.prog w = .ok (.bool a.isNone) w := fun w a n c n' c' => Lib.run_eql_slice_nil w 22 67 a n c n' c' Tryd.underlying22
    go_enter Tryd.func60, Tryd.ntmps60
    go_wp2_with (at_builtin; refine wpList_append_lim _ rfl (.tmp 5) (.tmp 6) rfl w.heap.size (.slice (some ⟨w.heap.size, 0, none⟩) 0 0) 0 [] rfl ?h1 ?h2 w.heap.size (some ad) n c xs rfl ?h3 ?h4 ?h5 ?h6)
    case h1 => exact Own.empty w w.heap.size (Nat.le_refl _)
    case h2 => exact fun x hx => by simp at hx
    case h3 => exact (ha.more hB).alloc (Nat.le_refl _) _
    case h4 => omega
    case h5 => simp
    case h6 =>
      intro A' c' w1 hl ho hg
      go_wp2
      go_ret
      refine ⟨A', n, c', ?_, ?_, ?_⟩
      · simp
      · simpa using hl
      · exact ((Below.refl w.heap.size w).alloc (Nat.le_refl _) _).grown hg (by simp) (fun k hk => by cases hk; exact Nat.le_refl _)
end Go.Proofs.YtnlmdjbakcjhbaaDoor
namespace Go.Proofs.YtnlmdjbakcjhbaaDoor
open Go.RowKit
set_option maxHeartbeats 400000 in
theorem ofWord_any (x : Nat) (w : World) (hx : x < 18446744073709551616) :
    Calls Tryd.prog 57 #[.int .u64 (x : Int)] w (RetSl w (digs x)) := by
  rcases Nat.eq_zero_or_pos x with h0 | h0
  · subst h0
    rw [digs_zero]
    go_enter Tryd.func57, Tryd.ntmps57
    go_wp2
    go_ret
    exact ⟨none, 0, 0, rfl, Lim.none_ (by omega), Below.refl _ _⟩
  · have hb : ((x : Int) == 0) = false := by simp; omega
    by_cases h1 : x < 4294967296
    · have hd : digs x = [x] := by
        have := digs_cons (v := 0) h1 (by omega)
        rwa [Nat.mul_zero, Nat.add_zero, digs_zero] at this
      rw [hd]
      have hb2 : ((x : Int) / 4294967296 == 0) = true := by simp; omega
      clear hd
      go_enter Tryd.func57, Tryd.ntmps57
      go_wp2
      go_ret
      exact ⟨_, _, _, rfl, (row_new w [x] _ rfl).lim (fun z hz => by simp at hz; omega) 1 (by simp) (by omega), (Below.refl _ _).alloc (Nat.le_refl _) _⟩
    · have hd : digs x = [x % 4294967296, x / 4294967296] := by
        have h2 := digs_cons (x := x % 4294967296) (v := x / 4294967296) (by omega) (by omega)
        have h3 := digs_cons (x := x / 4294967296) (v := 0) (by omega) (by omega)
        rw [Nat.mul_zero, Nat.add_zero, digs_zero] at h3
        rw [show x % 4294967296 + 4294967296 * (x / 4294967296) = x by omega, h3] at h2
        exact h2
      rw [hd]
      have hb2 : ((x : Int) / 4294967296 == 0) = false := by simp; omega
      clear hd
      go_enter Tryd.func57, Tryd.ntmps57
      go_wp2
      go_ret
      exact ⟨_, _, _, rfl, (row_new w [x % 4294967296, x / 4294967296] _ (by simp [ints])).lim (fun z hz => by simp at hz; omega) 2 (by simp) (by omega), (Below.refl _ _).alloc (Nat.le_refl _) _⟩
end Go.Proofs.YtnlmdjbakcjhbaaDoor
namespace Go.Proofs.YtnlmdjbakcjhbaaDoor
open Go.RowKit
/-- A result that was stored into a new struct of the call's own. -/
theorem RetInt.stored {w W w1 : World} {neg : Bool} {A : Option Addr} {n c g : Nat} {z : Int} {a0 a1 : Value} (hi : IsInt w1 neg A n c z) (hW : Below w.heap.size w W) (hb : Below W.heap.size W w1) (hg : w.heap.size ≤ g)
    (h0 : w1.cell? ⟨g, 0, none⟩ = some a0) (h1 : w1.cell? ⟨g, 1, none⟩ = some a1) (n0 : noLimb a0 = true) (n1 : noLimb a1 = true) :
    RetInt w z (.returned (.agg #[.bool neg, .slice A n c])) ((w1.setCell ⟨g, 0, none⟩ (.bool neg)).setCell ⟨g, 1, none⟩ (.slice A n c)) :=
  ⟨_, _, _, _, rfl, hi.stored h0 h1 n0 n1 _ _, ((hW.trans (hb.mono hW.size)).setCell hg _).setCell hg _⟩
set_option maxHeartbeats 400000 in
theorem of_any (n : Int) (w : World) (h1 : -9223372036854775808 ≤ n) (h2 : n ≤ 9223372036854775807) :
    Calls Tryd.prog 46 #[.int .i64 n] w (RetInt w n) := by
  by_cases h0 : n < 0
  · have H1 := fun W => ofWord_any n.natAbs W (by omega)
    have H2 := fun A k c W h => build_digs true A k c n.natAbs n W h (by unfold zOf; simp; omega)
    have HW := Lib.hid (wrap_neg_wrap n h1 h0)
    have H1' := Lib.hid H1
    have H2' := Lib.hid H2
    clear H1 H2
    go_enter Tryd.func46, Tryd.ntmps46
    go_wp2_with fail
    rw [HW.out]
    refine (H1'.out _).mono ?_
    rintro e w1 ⟨A1, n1, c1, rfl, hl1, hb1⟩
    have S0 := Lib.hid ((Slot2.new w (.bool false) (.slice none 0 0) 27).after hb1)
    go_wp2_with fail
    refine (H2'.out _ _ _ _ hl1).mono ?_
    rintro e w2 ⟨neg2, A2, n2, c2, rfl, hi2, hb2⟩
    obtain ⟨k0, k1, f0, f1, _⟩ := S0.out.after hb2
    go_wp2
    exact bodyPost_ret (v := .agg #[.bool neg2, .slice A2 n2 c2]) (by simp [results, Tryd.results46, go_sem, k0, k1]) rfl
      (RetInt.stored hi2 (((Below.refl _ _).alloc (Nat.le_refl _) _).trans (hb1.mono (by simp))) hb2 (Nat.le_refl _) k0 k1 rfl rfl)
  · obtain ⟨n, rfl⟩ := Int.eq_ofNat_of_zero_le (show 0 ≤ n by omega)
    have H1 := fun W => ofWord_any n W (by omega)
    have H2 := fun A k c W h => build_digs false A k c n n W h rfl
    have H1' := Lib.hid H1
    have H2' := Lib.hid H2
    clear H1 H2
    go_enter Tryd.func46, Tryd.ntmps46
    go_wp2_with fail
    refine (H1'.out _).mono ?_
    rintro e w1 ⟨A1, n1, c1, rfl, hl1, hb1⟩
    have S0 := Lib.hid ((Slot2.new w (.bool false) (.slice none 0 0) 27).after hb1)
    go_wp2_with fail
    refine (H2'.out _ _ _ _ hl1).mono ?_
    rintro e w2 ⟨neg2, A2, n2, c2, rfl, hi2, hb2⟩
    obtain ⟨k0, k1, f0, f1, _⟩ := S0.out.after hb2
    go_wp2
    exact bodyPost_ret (v := .agg #[.bool neg2, .slice A2 n2 c2]) (by simp [results, Tryd.results46, go_sem, k0, k1]) rfl
      (RetInt.stored hi2 (((Below.refl _ _).alloc (Nat.le_refl _) _).trans (hb1.mono (by simp))) hb2 (Nat.le_refl _) k0 k1 rfl rfl)

set_option maxHeartbeats 400000 in
theorem abs_any (neg : Bool) (A : Option Addr) (n c : Nat) (z : Int) (w : World) (ha : IsInt w neg A n c z) (hn : n ≤ 1000000) :
    Calls Tryd.prog 51 #[.agg #[.bool neg, .slice A n c]] w (RetInt w (z.natAbs : Int)) := by
  have H1 := fun W (hW : Below w.heap.size w W) => clone_any A n c w.heap.size (digs z.natAbs) W (ha.lim.below hW) hW.size hn
  have H2 := fun A k c W h => build_digs false A k c z.natAbs (z.natAbs : Int) W h rfl
  have H1' := Lib.hid H1
  have H2' := Lib.hid H2
  clear H1 H2
  obtain ⟨HB, P0, R0⟩ := frame11 w (.bool neg) (.slice A n c)
  go_enter Tryd.func51, Tryd.ntmps51
  go_wp2_with fail
  refine (H1'.out _ HB).mono ?_
  rintro e w1 ⟨A1, n1, c1, rfl, hl1, hb1⟩
  have B1 := HB.trans (hb1.mono HB.size)
  have R1 := R0.after hb1
  go_wp2_with fail
  refine (H2'.out _ _ _ _ hl1).mono ?_
  rintro e w2 ⟨neg2, A2, n2, c2, rfl, hi2, hb2⟩
  obtain ⟨k0, k1, f0, f1, _⟩ := R1.after hb2
  go_wp2
  exact bodyPost_ret (v := .agg #[.bool neg2, .slice A2 n2 c2]) (by simp [results, Tryd.results51, go_sem, k0, k1]) rfl
    (RetInt.stored hi2 B1 hb2 (by omega) k0 k1 rfl rfl)

set_option maxHeartbeats 400000 in
theorem withSign_any (neg s : Bool) (A : Option Addr) (n c : Nat) (z : Int) (w : World) (ha : IsInt w neg A n c z) :
    Calls Tryd.prog 75 #[.agg #[.bool neg, .slice A n c], .bool s] w (RetInt w (if s then -z else z)) := by
  cases s
  · have H2 := fun W (hW : Below w.heap.size w W) => build_any neg A n c w.heap.size (digs z.natAbs) W (ha.lim.below hW) hW.size
    have e1 : zOf neg (val (digs z.natAbs)) = (if false = true then -z else z) := by rw [val_digs, ha.sign]; exact zOf_self z
    simp only [e1] at H2
    clear e1
    have H2' := Lib.hid H2
    clear H2
    obtain ⟨HB, P0, R0⟩ := frame11 w (.bool neg) (.slice A n c)
    go_enter Tryd.func75, Tryd.ntmps75
    go_wp2_with fail
    refine (H2'.out _ HB).mono ?_
    rintro e w2 ⟨neg2, A2, n2, c2, rfl, hi2, hb2⟩
    obtain ⟨k0, k1, f0, f1, _⟩ := R0.after hb2
    go_wp2
    exact bodyPost_ret (v := .agg #[.bool neg2, .slice A2 n2 c2]) (by simp [results, Tryd.results75, go_sem, k0, k1]) rfl
      (RetInt.stored hi2 HB hb2 (by omega) k0 k1 rfl rfl)
  · have H2 := fun W (hW : Below w.heap.size w W) => build_any (!neg) A n c w.heap.size (digs z.natAbs) W (ha.lim.below hW) hW.size
    have e1 : zOf (!neg) (val (digs z.natAbs)) = (if true = true then -z else z) := by rw [val_digs, ha.sign]; exact zOf_not z
    simp only [e1] at H2
    clear e1
    have H2' := Lib.hid H2
    clear H2
    obtain ⟨HB, P0, R0⟩ := frame11 w (.bool neg) (.slice A n c)
    go_enter Tryd.func75, Tryd.ntmps75
    go_wp2_with fail
    refine (H2'.out _ HB).mono ?_
    rintro e w2 ⟨neg2, A2, n2, c2, rfl, hi2, hb2⟩
    obtain ⟨k0, k1, f0, f1, _⟩ := R0.after hb2
    go_wp2
    exact bodyPost_ret (v := .agg #[.bool neg2, .slice A2 n2 c2]) (by simp [results, Tryd.results75, go_sem, k0, k1]) rfl
      (RetInt.stored hi2 HB hb2 (by omega) k0 k1 rfl rfl)
end Go.Proofs.YtnlmdjbakcjhbaaDoor
namespace Go.Proofs.YtnlmdjbakcjhbaaDoor
open Go.RowKit

set_option maxHeartbeats 400000 in
theorem compareI (a b : Int) (w : World) : Calls Tryd.prog 111 #[.int .i64 a, .int .i64 b] w fun e w' => e = .returned (.int .i64 (cmpN a b)) ∧ Drawn w w' := by
  unfold cmpN
  by_cases h1 : a < b
  · rw [if_pos h1]
    go_enter Tryd.func111, Tryd.ntmps111
    go_wp2
    go_ret
    exact ⟨rfl, Drawn.refl _⟩
  · rw [if_neg h1]
    by_cases h2 : b < a
    · rw [if_pos h2]
      go_enter Tryd.func111, Tryd.ntmps111
      go_wp2
      go_ret
      exact ⟨rfl, Drawn.refl _⟩
    · rw [if_neg h2]
      go_enter Tryd.func111, Tryd.ntmps111
      go_wp2
      go_ret
      exact ⟨rfl, Drawn.refl _⟩
set_option maxHeartbeats 400000 in
theorem compareU (a b : Int) (w : World) : Calls Tryd.prog 112 #[.int .u32 a, .int .u32 b] w fun e w' => e = .returned (.int .i64 (cmpN a b)) ∧ Drawn w w' := by
  unfold cmpN
  by_cases h1 : a < b
  · rw [if_pos h1]
    go_enter Tryd.func112, Tryd.ntmps112
    go_wp2
    go_ret
    exact ⟨rfl, Drawn.refl _⟩
  · rw [if_neg h1]
    by_cases h2 : b < a
    · rw [if_pos h2]
      go_enter Tryd.func112, Tryd.ntmps112
      go_wp2
      go_ret
      exact ⟨rfl, Drawn.refl _⟩
    · rw [if_neg h2]
      go_enter Tryd.func112, Tryd.ntmps112
      go_wp2
      go_ret
      exact ⟨rfl, Drawn.refl _⟩
set_option maxHeartbeats 400000 in
theorem order_any (A A' : Option Addr) (n c m d B B' : Nat) (xs ys : List Nat) (w : World) (ha : Lim w B A n c xs) (hb : Lim w B' A' m d ys) :
    Calls Tryd.prog 91 #[.slice A n c, .slice A' m d] w fun e w' => e = .returned (.int .i64 (ordV xs ys)) ∧ Drawn w w' := by
  have hn := ha.cap
  have hm := hb.cap
  have hn' : n ≤ 9223372036854775807 := by omega
  have hm' : m ≤ 9223372036854775807 := by omega
  clear hn hm
  by_cases hnm : n = m
  · subst hnm
    have HL : Hid (xs.length = n ∧ ys.length = n) := ⟨ha.len, hb.len⟩
    have hLx : Limbs xs := ha.lt
    have hLy : Limbs ys := hb.lt
    go_enter Tryd.func91, Tryd.ntmps91
    go_wp2
    go_loopw [5] (fun i wr => ∃ k : Int, -1 ≤ k ∧ k < n ∧ i = .int .i64 k ∧ Hid (∀ j : Nat, k < j → j < n → xs.getD j 0 = ys.getD j 0) ∧ Drawn w wr) (fun i _ => (intOf i + 1).toNat)
    case atStart => exact ⟨n - 1, by omega, by omega, rfl, fun j h1 h2 => absurd h1 (by omega), Drawn.refl w⟩
    case round =>
      obtain ⟨k, hk, hkn, rfl, hgt, hd⟩ := hrel
      by_cases h0 : 0 ≤ k
      · obtain ⟨k, rfl⟩ := Int.eq_ofNat_of_zero_le h0
        have hkn' : k < n := by omega
        obtain ⟨ad, rfl, _, x, hx, hxl, hcx⟩ := (ha.drawn hd).at_ hkn'
        obtain ⟨ad', rfl, _, y, hy, hyl, hcy⟩ := (hb.drawn hd).at_ hkn'
        by_cases hxy : x = y
        · have hb1 : ((x : Int) != y) = false := by simp [hxy]
          have HXY := Lib.hid hxy
          clear hxy
          go_wp2
          go_quiet (fail)
          go_wp2
          go_roundw
          case rel =>
            refine ⟨k - 1, by omega, by omega, rfl, fun j h1 h2 => ?_, hd.drewN _⟩
            rcases Nat.eq_or_lt_of_le (show k ≤ j by omega) with e | e
            · subst e; rw [← hx.out, ← hy.out, HXY.out]
            · exact hgt.out j (by omega) h2
          case measure => simp [intOf] <;> omega
        · have hb1 : ((x : Int) != y) = true := by simp; omega
          have hb2 := Lib.hid hxy
          clear hxy
          go_wp2
          go_quiet (fail)
          go_wp2
          go_quiet ((go_at_call 112; exact quietDD (compareU _ _ _)))
          go_wp2
          go_ret
          refine ⟨retI ?_, ?_⟩
          · rw [hx.out, hy.out, ordV_at hLx hLy (by rw [HL.out.1, HL.out.2]) k (by rw [HL.out.1]; omega) (fun j h1 h2 => hgt.out j (by omega) (by rw [HL.out.1] at h2; exact h2))]
            rw [← hx.out, ← hy.out]; exact hb2.out
          · exact (hd.drewN _).drewN _
      · obtain rfl : k = -1 := by omega
        go_wp2
        go_ret
        refine ⟨retI ?_, hd⟩
        rw [ordV_eq (by rw [HL.out.1, HL.out.2]) (fun j h1 => hgt.out j (by omega) (by rw [HL.out.1] at h1; exact h1))]
  · have hv : ordV xs ys = cmpN n m := by unfold ordV; rw [ha.len, hb.len, if_neg hnm]
    have HV := Lib.hid hv
    have hb1 : ((n : Int) == m) = false := by simp; omega
    clear hv ha hb
    go_enter Tryd.func91, Tryd.ntmps91
    go_wp2_with fail
    refine (compareI _ _ _).mono ?_
    rintro e w1 ⟨rfl, hd⟩
    go_wp2
    go_ret
    exact ⟨retI (by rw [HV.out]), hd⟩
end Go.Proofs.YtnlmdjbakcjhbaaDoor
namespace Go.Proofs.YtnlmdjbakcjhbaaDoor
open Go.RowKit
set_option maxHeartbeats 400000 in
theorem word_any (A : Option Addr) (n c B : Nat) (xs : List Nat) (w : World) (ha : Lim w B A n c xs) :
    Calls Tryd.prog 88 #[.slice A n c] w fun e w' => e = .returned (.tuple #[.int .u64 ((if n ≤ 2 then val xs else 0 : Nat) : Int), .bool (decide (n ≤ 2))]) ∧ Drawn w w' := by
  have hl := ha.len
  rcases n with _ | _ | _ | n
  · have hx : xs = [] := List.eq_nil_of_length_eq_zero hl
    subst hx
    go_enter Tryd.func88, Tryd.ntmps88
    go_wp2
    go_ret2
    exact ⟨by simp [val], Drawn.refl _⟩
  · obtain ⟨ad, rfl, _, x, hx, hxl, hcx⟩ := ha.at_ (show 0 < 1 by omega)
    have hv : (if 0 + 1 ≤ 2 then val xs else 0) = x := by
      match xs, hl with
      | [a], _ => simp [val, hx.out]
    rw [hv]
    have hc0 : w.cell? ad = some (.int .u32 (x : Int)) := hcx
    clear hv hcx hl
    go_enter Tryd.func88, Tryd.ntmps88
    go_wp2
    go_ret2
    exact ⟨rfl, Drawn.refl _⟩
  · obtain ⟨ad, rfl, _, x, hx, hxl, hcx⟩ := ha.at_ (show 0 < 2 by omega)
    obtain ⟨ad', e, _, y, hy, hyl, hcy⟩ := ha.at_ (show 1 < 2 by omega)
    obtain rfl := Option.some.inj e
    have hv : (if 0 + 1 + 1 ≤ 2 then val xs else 0) = x + 4294967296 * y := by
      match xs, hl with
      | [a, b], _ => simp [val, hx.out, hy.out]
    rw [hv]
    have hc0 : w.cell? ad = some (.int .u32 (x : Int)) := hcx
    have hc1 : w.cell? { block := ad.block, off := ad.off + 1 } = some (.int .u32 (y : Int)) := hcy
    clear hv hcx hcy hl
    go_enter Tryd.func88, Tryd.ntmps88
    go_wp2
    go_quiet (fail)
    go_wp2
    go_ret2
    exact ⟨retT (or_limbs x y hxl hyl), Drawn.refl _ |>.drewN _⟩
  · have hv : (if n + 1 + 1 + 1 ≤ 2 then val xs else 0) = 0 := if_neg (by omega)
    have hv2 : decide (n + 1 + 1 + 1 ≤ 2) = false := decide_eq_false (by omega)
    rw [hv, hv2]
    have b1 : ((n : Int) + 1 + 1 + 1 == 0) = false := by simp; omega
    have b2 : ((n : Int) + 1 + 1 + 1 == 1) = false := by simp; omega
    have b3 : ((n : Int) + 1 + 1 + 1 == 2) = false := by simp; omega
    clear hv hv2 hl
    go_enter Tryd.func88, Tryd.ntmps88
    go_wp2
    go_ret2
    exact ⟨rfl, Drawn.refl _⟩
end Go.Proofs.YtnlmdjbakcjhbaaDoor
namespace Go.Proofs.YtnlmdjbakcjhbaaDoor
open Go.RowKit
def sgn (z : Int) : Int := if z < 0 then -1 else if 0 < z then 1 else 0
theorem len_of {w : World} {neg : Bool} {A : Option Addr} {n c : Nat} {z : Int} (h : IsInt w neg A n c z) : n = 0 ↔ z = 0 := by
  rw [← h.lim.len, digs_len_zero]; omega
set_option maxHeartbeats 400000 in
theorem rsign_any (neg : Bool) (A : Option Addr) (n c : Nat) (z : Int) (w : World) (ha : IsInt w neg A n c z) :
    Calls Tryd.prog 17 #[.agg #[.bool neg, .slice A n c]] w fun e w' => e = .returned (.int .i64 (sgn z)) ∧ Below w.heap.size w w' := by
  have hz := len_of ha
  have hs := ha.sign
  rcases Nat.eq_zero_or_pos n with h0 | h0
  · have h1 : sgn z = 0 := by rw [hz.1 h0]; rfl
    rw [h1]
    subst h0
    clear hz hs h1
    go_enter Tryd.func17, Tryd.ntmps17
    go_wp2
    go_ret
    exact ⟨rfl, (Below.refl _ _).alloc (Nat.le_refl _) _⟩
  · have hb1 : ((n : Int) == 0) = false := by simp; omega
    by_cases h2 : z < 0
    · have h1 : sgn z = -1 := if_pos h2
      have h3 : neg = true := by rw [hs, decide_eq_true h2]
      rw [h1]
      subst h3
      clear hz hs h1
      go_enter Tryd.func17, Tryd.ntmps17
      go_wp2
      go_ret
      exact ⟨rfl, (Below.refl _ _).alloc (Nat.le_refl _) _⟩
    · have h1 : sgn z = 1 := by unfold sgn; rw [if_neg h2, if_pos (by omega)]
      have h3 : neg = false := by rw [hs, decide_eq_false h2]
      rw [h1]
      subst h3
      clear hz hs h1
      go_enter Tryd.func17, Tryd.ntmps17
      go_wp2
      go_ret
      exact ⟨rfl, (Below.refl _ _).alloc (Nat.le_refl _) _⟩
set_option maxHeartbeats 400000 in
theorem sign_any (neg : Bool) (A : Option Addr) (n c : Nat) (z : Int) (w : World) (ha : IsInt w neg A n c z) :
    Calls Tryd.prog 52 #[.agg #[.bool neg, .slice A n c]] w fun e w' => e = .returned (.int .i64 (sgn z)) ∧ Below w.heap.size w w' := by
  have H := fun W (hW : Below w.heap.size w W) => tidy_any neg A n c w.heap.size (digs z.natAbs) W (ha.lim.below hW) hW.size
  have e1 : zOf neg (val (digs z.natAbs)) = z := by rw [val_digs, ha.sign]; exact zOf_self z
  rw [e1, val_digs] at H
  have hz : (digs z.natAbs).length = 0 ↔ z = 0 := by rw [digs_len_zero]; omega
  generalize (digs z.natAbs).length = k at *
  have P0 := Slot2.new w (.bool neg) (.slice A n c) 27
  have HB := (Below.refl w.heap.size w).alloc (Nat.le_refl _) (.cells #[.bool neg, .slice A n c] 27)
  by_cases h2 : z < 0
  · have h1 : sgn z = -1 := if_pos h2
    rw [decide_eq_true h2] at H
    rw [h1]
    have H' := Lib.hid H
    clear hz h1 H e1
    go_enter Tryd.func52, Tryd.ntmps52
    go_wp2_with fail
    refine (H'.out _ HB).mono ?_
    rintro e w1 ⟨rfl, hb1⟩
    obtain ⟨k0, k1, f0, f1, _⟩ := P0.after hb1
    go_wp2
    go_ret
    exact ⟨rfl, ((HB.trans (hb1.mono HB.size)).setCell (by simp) _).setCell (by simp) _⟩
  · rw [decide_eq_false h2] at H
    by_cases h0 : z = 0
    · have h1 : sgn z = 0 := by rw [h0]; rfl
      obtain rfl : k = 0 := hz.2 h0
      rw [h1]
      have H' := Lib.hid H
      clear hz h1 H e1
      go_enter Tryd.func52, Tryd.ntmps52
      go_wp2_with fail
      refine (H'.out _ HB).mono ?_
      rintro e w1 ⟨rfl, hb1⟩
      obtain ⟨k0, k1, f0, f1, _⟩ := P0.after hb1
      go_wp2
      go_ret
      exact ⟨rfl, ((HB.trans (hb1.mono HB.size)).setCell (by simp) _).setCell (by simp) _⟩
    · have h1 : sgn z = 1 := by unfold sgn; rw [if_neg h2, if_pos (by omega)]
      have hk : 0 < k := by omega
      rw [h1]
      have H' := Lib.hid H
      clear hz h1 H e1
      go_enter Tryd.func52, Tryd.ntmps52
      go_wp2_with fail
      refine (H'.out _ HB).mono ?_
      rintro e w1 ⟨rfl, hb1⟩
      obtain ⟨k0, k1, f0, f1, _⟩ := P0.after hb1
      go_wp2
      go_ret
      exact ⟨rfl, ((HB.trans (hb1.mono HB.size)).setCell (by simp) _).setCell (by simp) _⟩
end Go.Proofs.YtnlmdjbakcjhbaaDoor
namespace Go.Proofs.YtnlmdjbakcjhbaaDoor
open Go.RowKit
set_option maxHeartbeats 400000 in
theorem words_yes (A A' : Option Addr) (n c m d B B' : Nat) (xs ys : List Nat) (w : World) (ha : Lim w B A n c xs) (hb : Lim w B' A' m d ys) (h1 : n ≤ 2) (h2 : m ≤ 2) :
    Calls Tryd.prog 55 #[.slice A n c, .slice A' m d] w fun e w' => e = .returned (.tuple #[.int .u64 ((val xs : Nat) : Int), .int .u64 ((val ys : Nat) : Int), .bool true]) ∧ Drawn w w' := by
  have H1 := word_any A n c B xs w ha
  have H2 := fun W hd => word_any A' m d B' ys W (hb.drawn (w := w) hd)
  rw [if_pos h1, decide_eq_true h1] at H1
  simp only [if_pos h2, decide_eq_true h2] at H2
  have H1' := Lib.hid H1
  have H2' := Lib.hid H2
  generalize val xs = x at *
  generalize val ys = y at *
  clear H1 H2
  go_enter Tryd.func55, Tryd.ntmps55
  go_wp2_with fail
  refine H1'.out.mono ?_
  rintro e w1 ⟨rfl, hd1⟩
  go_wp2_with fail
  refine (H2'.out _ hd1).mono ?_
  rintro e w2 ⟨rfl, hd2⟩
  go_wp2
  go_ret3
  exact ⟨rfl, hd1.trans hd2⟩
set_option maxHeartbeats 400000 in
theorem words_no (A A' : Option Addr) (n c m d B B' : Nat) (xs ys : List Nat) (w : World) (ha : Lim w B A n c xs) (hb : Lim w B' A' m d ys) (h : ¬ (n ≤ 2 ∧ m ≤ 2)) :
    Calls Tryd.prog 55 #[.slice A n c, .slice A' m d] w fun e w' => (∃ x y : Int, e = .returned (.tuple #[.int .u64 x, .int .u64 y, .bool false])) ∧ Drawn w w' := by
  have H1 := word_any A n c B xs w ha
  have H2 := fun W hd => word_any A' m d B' ys W (hb.drawn (w := w) hd)
  generalize ((if n ≤ 2 then val xs else 0 : Nat) : Int) = x at H1
  generalize ((if m ≤ 2 then val ys else 0 : Nat) : Int) = y at H2
  by_cases h1 : n ≤ 2
  · have h2 : ¬ m ≤ 2 := fun h2 => h ⟨h1, h2⟩
    rw [decide_eq_true h1] at H1
    simp only [decide_eq_false h2] at H2
    have H1' := Lib.hid H1
    have H2' := Lib.hid H2
    clear H1 H2 h
    go_enter Tryd.func55, Tryd.ntmps55
    go_wp2_with fail
    refine H1'.out.mono ?_
    rintro e w1 ⟨rfl, hd1⟩
    go_wp2_with fail
    refine (H2'.out _ hd1).mono ?_
    rintro e w2 ⟨rfl, hd2⟩
    go_wp2
    go_ret3
    exact ⟨⟨_, _, rfl⟩, hd1.trans hd2⟩
  · rw [decide_eq_false h1] at H1
    generalize decide (m ≤ 2) = b at H2
    have H1' := Lib.hid H1
    have H2' := Lib.hid H2
    clear H1 H2 h
    go_enter Tryd.func55, Tryd.ntmps55
    go_wp2_with fail
    refine H1'.out.mono ?_
    rintro e w1 ⟨rfl, hd1⟩
    go_wp2_with fail
    refine (H2'.out _ hd1).mono ?_
    rintro e w2 ⟨rfl, hd2⟩
    go_wp2
    go_ret3
    exact ⟨⟨_, _, rfl⟩, hd1.trans hd2⟩
set_option maxHeartbeats 400000 in
theorem gcdWords_any (a b : Nat) (w : World) (ha : a < 18446744073709551616) (hb : b < 18446744073709551616) :
    Calls Tryd.prog 58 #[.int .u64 (a : Int), .int .u64 (b : Int)] w fun e w' => e = .returned (.int .u64 ((Nat.gcd a b : Nat) : Int)) ∧ Drawn w w' := by
  go_enter Tryd.func58, Tryd.ntmps58
  go_wp2
  go_loopw [0, 1] (fun s t wr => ∃ x y : Nat, s = .int .u64 x ∧ t = .int .u64 y ∧ x < 18446744073709551616 ∧ y < 18446744073709551616 ∧ Hid (Nat.gcd x y = Nat.gcd a b) ∧ Drawn w wr) (fun _ t _ => (intOf t).toNat)
  case atStart => exact ⟨a, b, rfl, rfl, ha, hb, rfl, Drawn.refl w⟩
  case round =>
    obtain ⟨x, y, rfl, rfl, hx, hy, hg, hd⟩ := hrel
    rcases Nat.eq_zero_or_pos y with h0 | h0
    · subst h0
      go_wp2
      go_ret
      exact ⟨retI (by rw [← hg.out, Nat.gcd_zero_right]), hd⟩
    · have hb1 : ((y : Int) != 0) = true := by simp; omega
      have hb2 : ((y : Int) == 0) = false := by simp; omega
      go_wp2
      go_quiet (fail)
      go_wp2
      have hm := Nat.mod_lt x h0
      have e1 : (((x % y : Nat)) : Int) = (x : Int) % y := Int.natCast_emod x y
      refine ⟨⟨y, x % y, rfl, by rw [e1], hy, by omega, ?_, hd.drewN _⟩, ?_⟩
      · rw [Hid, ← hg.out, Nat.gcd_comm x y, Nat.gcd_rec y x, Nat.gcd_comm]
      · rw [← e1]; simp [intOf]; omega
end Go.Proofs.YtnlmdjbakcjhbaaDoor
namespace Go.Proofs.YtnlmdjbakcjhbaaDoor
theorem digs_len_mul (x y : Nat) : (digs (x * y)).length ≤ (digs x).length + (digs y).length := by
  apply digs_len_le
  rw [Nat.pow_add]
  rcases Nat.eq_zero_or_pos y with h | h
  · subst h
    rw [Nat.mul_zero]
    exact Nat.mul_pos (Nat.pow_pos (by omega)) (Nat.pow_pos (by omega))
  · exact Nat.lt_of_lt_of_le (Nat.mul_lt_mul_of_pos_right (lt_digs_len x) h) (Nat.mul_le_mul_left _ (Nat.le_of_lt (lt_digs_len y)))
theorem digs_len_pow (x k : Nat) : (digs (x ^ k)).length ≤ k * (digs x).length + 1 := by
  induction k with
  | zero => rw [Nat.pow_zero]; exact Nat.le_trans (digs_len_le (k := 1) (by omega)) (by omega)
  | succ k ih =>
    rw [Nat.pow_succ, Nat.succ_mul]
    have := digs_len_mul (x ^ k) x
    omega
theorem digs_len_lt {k v : Nat} (h : 4294967296 ^ k ≤ v) : k < (digs v).length := by
  rcases Nat.lt_or_ge k (digs v).length with h1 | h1
  · exact h1
  · have h2 := lt_digs_len v
    have h3 : 4294967296 ^ (digs v).length ≤ 4294967296 ^ k := Nat.pow_le_pow_right (by omega) h1
    omega
/-- Limbs of the least length for their value are those of the value. -/
theorem eq_digs {xs : List Nat} (h : Limbs xs) (hl : xs.length ≤ (digs (val xs)).length) : xs = digs (val xs) := by
  have := digs_eq_take h
  rw [List.take_of_length_le hl] at this
  exact this.symm
theorem sq_lt_sq {a b : Nat} (h : a * a < b * b) : a < b := by
  rcases Nat.lt_or_ge a b with h1 | h1
  · exact h1
  · have := Nat.mul_le_mul h1 h1; omega
/-- The step of Newton's iteration stays above the root. -/
theorem newton_step {a r q : Nat} (h : a < r * (q + 1)) : a < ((r + q) / 2 + 1) * ((r + q) / 2 + 1) := by
  have h1 : r + q + 1 ≤ 2 * ((r + q) / 2 + 1) := by omega
  generalize (r + q) / 2 + 1 = m at *
  have h2 : (r + (q + 1)) * (r + (q + 1)) ≤ (2 * m) * (2 * m) := Nat.mul_le_mul h1 h1
  have h3 : (2 * m) * (2 * m) = 4 * (m * m) := by rw [Nat.mul_mul_mul_comm]
  have h4 : 4 * (r * (q + 1)) ≤ (r + (q + 1)) * (r + (q + 1)) := by
    rcases Nat.le_total r (q + 1) with e | e
    · obtain ⟨d, hd⟩ := Nat.le.dest e
      rw [← hd]
      have : (r + (r + d)) * (r + (r + d)) = 4 * (r * (r + d)) + d * d := by
        have e1 : r + (r + d) = 2 * r + d := by omega
        rw [e1, Nat.mul_add, Nat.add_mul, Nat.add_mul, Nat.mul_add]
        have e2 : 2 * r * (2 * r) = 4 * (r * r) := by rw [Nat.mul_mul_mul_comm]
        have e3 : 2 * r * d = 2 * (r * d) := by rw [Nat.mul_assoc]
        have e4 : d * (2 * r) = 2 * (r * d) := by rw [Nat.mul_comm, Nat.mul_assoc]
        rw [e2, e3, e4]; omega
      omega
    · obtain ⟨d, hd⟩ := Nat.le.dest e
      generalize q + 1 = u at *
      subst hd
      have : (u + d + u) * (u + d + u) = 4 * ((u + d) * u) + d * d := by
        have e1 : u + d + u = 2 * u + d := by omega
        rw [e1, Nat.mul_add, Nat.add_mul, Nat.add_mul, Nat.add_mul]
        have e2 : 2 * u * (2 * u) = 4 * (u * u) := by rw [Nat.mul_mul_mul_comm]
        have e3 : 2 * u * d = 2 * (d * u) := by rw [Nat.mul_assoc, Nat.mul_comm u d]
        have e4 : d * (2 * u) = 2 * (d * u) := by rw [Nat.mul_comm, Nat.mul_assoc, Nat.mul_comm u d]
        rw [e2, e3, e4]; omega
      omega
  omega
end Go.Proofs.YtnlmdjbakcjhbaaDoor
