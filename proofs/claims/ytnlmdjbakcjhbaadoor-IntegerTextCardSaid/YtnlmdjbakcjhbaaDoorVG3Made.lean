/- Contracts of torsionref01.Made. Contracts of torsionref01.Of, Neg, Abs, Valid and of made. A rule for a region whose operations come in any order that its edges allow: one proof for each operation, by what holds once a set of operations is done. Conditions: as the theorem states. Words for statements that assign several integers at once: values that are integers, structs of the call's own that hold them. A rule for a region in one order: operations that may be taken first, single operations that alone may come up, and pairs that may come up in either order. Conditions: as the theorem states. Plain mathematics of an estimate of a quotient by the highest limbs. Plain mathematics of long division: the estimate by the highest limbs, and one step of the subtraction. Contract of integer.estimate. Contracts of integer.subtractMultiple and addBack: in a block of limbs, at an offset. -/
import Derived.Test.YtnlmdjbakcjhbaaDoorVG1Int
import Derived.Test.YtnlmdjbakcjhbaaDoorVG0Num
import Derived.RegionTactic
import Derived.Deep.RegionHeld3
import Derived.Test.YtnlmdjbakcjhbaaDoorVG2TextA
namespace Go.Proofs.YtnlmdjbakcjhbaaDoor
open Go.RowKit
theorem limbs_nil : Limbs [] := fun x hx => by simp at hx
theorem Slot2.grown {w w1 : World} {g : Nat} {a0 a1 : Value} (h : Slot2 w g a0 a1) {row : Option Nat} (hg : w.grownBy w1 row) (hne : some g ≠ row) : Slot2 w1 g a0 a1 := by
  have e := hg.block g h.2.2.2.2 hne
  exact ⟨(World.cell?_of_block (w := w) (a := ⟨g, 0, none⟩) e).trans h.1, (World.cell?_of_block (w := w) (a := ⟨g, 1, none⟩) e).trans h.2.1,
    (World.frozen?_of_block (w := w) (a := ⟨g, 0, none⟩) e).trans h.2.2.1, (World.frozen?_of_block (w := w) (a := ⟨g, 1, none⟩) e).trans h.2.2.2.1, Nat.lt_of_lt_of_le h.2.2.2.2 hg.size⟩
set_option maxHeartbeats 1000000 in
theorem Made_false (A : Option Addr) (n c B : Nat) (xs : List Nat) (w : World) (ha : Lim w B A n c xs) (hB : B ≤ w.heap.size) (hn : n ≤ 1000000) :
    Calls Tryd.prog 16 #[.slice A n c, .bool false] w (RetInt w (zOf false (val xs))) := by
  have hcap := ha.cap
  have hnc : n ≤ c := by omega
  have hcm : c ≤ 9223372036854775807 := by omega
  clear hcap
  have HL := Lib.hid ha.len
  have hLx : Limbs xs := ha.lt
  have S0 := Slot2.new w (.bool false) (.slice none 0 0) 27
  have E0 := Own.empty (w.alloc (.cells #[.bool false, .slice none 0 0] 27)) (w.heap.size + 1) (by simp)
  rw [World.size_alloc] at E0
  go_enter Tryd.func16, Tryd.ntmps16
  go_wp2
  go_loop [5] (fun i => ∃ k : Nat, k ≤ n ∧ i = .int .i64 k ∧ Hid (∀ j : Nat, k ≤ j → j < n → xs.getD j 0 = 0)) (fun i => (intOf i).toNat)
  case atStart => exact ⟨n, by omega, rfl, fun j h1 h2 => absurd h1 (by omega)⟩
  case round =>
    obtain ⟨k, hkn, rfl, hz⟩ := hrel
    rcases Nat.eq_zero_or_pos k with h0 | h0
    · subst h0
      have HV := Lib.hid (digs_take hLx 0 (by omega) (fun j h1 h2 => hz.out j h1 (by rw [HL.out] at h2; exact h2)) (fun h => absurd h (by omega)))
      have hv0 : val xs = 0 := by have := HV.out; rwa [List.take_zero, digs_ne] at this
      have HV0 := Lib.hid hv0
      clear hv0
      have HT := (((ha.take (0) (by omega)).more hB).alloc (Nat.le_refl _) (.cells #[.bool false, .slice none 0 0] 27)).alloc (by simp) (.cells #[] 67)
      go_wp2_with (at_builtin; refine wpList_append_lim _ rfl (.tmp 25) (.tmp 28) rfl (w.heap.size + 1) (.slice (some ⟨w.heap.size + 1, 0, none⟩) 0 0) 0 [] rfl ?h1 ?h2 w.heap.size A (0) c (xs.take (0)) rfl ?h3 ?h4 ?h5 ?h6)
      all_goals (first | exact E0 | exact HT | exact limbs_nil | omega | simp | skip)
      case h6 =>
        intro A' c' w1 hl ho hg
        have B1 : Below w.heap.size w w1 := (((Below.refl w.heap.size w).alloc (Nat.le_refl _) _).alloc (by simp) _).grown hg (by simp; omega) (fun j hj => by simp [Value.ownBlock] at hj; omega)
        obtain ⟨k0, k1, f0, f1, _⟩ := (Slot2.grown (S0.alloc (.cells #[] 67)) hg (by simp [Value.ownBlock]))
        go_wp2
        refine bodyPost_ret (v := .agg #[.bool false, .slice A' (0 + (0)) c']) (by simp [results, Tryd.results16, go_sem, k0, k1]) rfl ⟨_, A', _, c', rfl, ?_, (B1.setCell (by simp) _).setCell (by simp) _⟩
        refine IsInt.stored ⟨?_, ?_⟩ k0 k1 rfl rfl _ _
        · rw [zOf_neg, HV0.out]; rfl
        · rw [zOf_natAbs, HV.out]; exact hl
    · obtain ⟨k, rfl⟩ : ∃ j, k = j + 1 := ⟨k - 1, by omega⟩
      obtain ⟨ad, rfl, _, x, hx, hxl, hcx⟩ := ((ha.more hB).alloc (Nat.le_refl _) (.cells #[.bool false, .slice none 0 0] 27)).at_ (show k < n by omega)
      by_cases h1 : x = 0
      · subst h1
        go_wp2
        refine ⟨⟨k, by omega, rfl, fun j h1 h2 => ?_⟩, by simp [intOf] <;> omega⟩
        rcases Nat.eq_or_lt_of_le h1 with e | e
        · subst e; exact hx.out.symm
        · exact hz.out j (by omega) h2
      · have hb1 : ((x : Int) == 0) = false := by simp; omega
        have HV := Lib.hid (digs_take hLx (k + 1) (by rw [HL.out]; omega) (fun j h1 h2 => hz.out j h1 (by rw [HL.out] at h2; exact h2)) (fun _ => by rw [Nat.add_sub_cancel, ← hx.out]; exact h1))
        have hv0 : 0 < val xs := by
          rcases Nat.eq_zero_or_pos (val xs) with e | e
          · have h2 := HV.out
            have h3 : (xs.take (k + 1)).length = k + 1 := by rw [List.length_take, HL.out]; omega
            rw [← h2, e, digs_zero] at h3
            simp at h3
          · exact e
        have HV0 := Lib.hid hv0
        clear hv0 h1
        have HT := (((ha.take (k + 1) (by omega)).more hB).alloc (Nat.le_refl _) (.cells #[.bool false, .slice none 0 0] 27)).alloc (by simp) (.cells #[] 67)
        go_wp2_with (at_builtin; refine wpList_append_lim _ rfl (.tmp 25) (.tmp 28) rfl (w.heap.size + 1) (.slice (some ⟨w.heap.size + 1, 0, none⟩) 0 0) 0 [] rfl ?g1 ?g2 w.heap.size (some ad) (k + 1) c (xs.take (k + 1)) rfl ?g3 ?g4 ?g5 ?g6)
        all_goals (first | exact E0 | exact HT | exact limbs_nil | omega | simp | skip)
        case g6 =>
          intro A' c' w1 hl ho hg
          have B1 : Below w.heap.size w w1 := (((Below.refl w.heap.size w).alloc (Nat.le_refl _) _).alloc (by simp) _).grown hg (by simp; omega) (fun j hj => by simp [Value.ownBlock] at hj; omega)
          obtain ⟨k0, k1, f0, f1, _⟩ := (Slot2.grown (S0.alloc (.cells #[] 67)) hg (by simp [Value.ownBlock]))
          go_wp2
          refine bodyPost_ret (v := .agg #[.bool false, .slice A' (k + 1) c']) (by simp [results, Tryd.results16, go_sem, k0, k1]) rfl ⟨_, A', _, c', rfl, ?_, (B1.setCell (by simp) _).setCell (by simp) _⟩
          refine IsInt.stored ⟨?_, ?_⟩ k0 k1 rfl rfl _ _
          · rw [zOf_neg, decide_eq_true HV0.out]; rfl
          · rw [zOf_natAbs, HV.out]; exact hl
set_option maxHeartbeats 1000000 in
theorem Made_true (A : Option Addr) (n c B : Nat) (xs : List Nat) (w : World) (ha : Lim w B A n c xs) (hB : B ≤ w.heap.size) (hn : n ≤ 1000000) :
    Calls Tryd.prog 16 #[.slice A n c, .bool true] w (RetInt w (zOf true (val xs))) := by
  have hcap := ha.cap
  have hnc : n ≤ c := by omega
  have hcm : c ≤ 9223372036854775807 := by omega
  clear hcap
  have HL := Lib.hid ha.len
  have hLx : Limbs xs := ha.lt
  have S0 := Slot2.new w (.bool false) (.slice none 0 0) 27
  have E0 := Own.empty (w.alloc (.cells #[.bool false, .slice none 0 0] 27)) (w.heap.size + 1) (by simp)
  rw [World.size_alloc] at E0
  go_enter Tryd.func16, Tryd.ntmps16
  go_wp2
  go_loop [5] (fun i => ∃ k : Nat, k ≤ n ∧ i = .int .i64 k ∧ Hid (∀ j : Nat, k ≤ j → j < n → xs.getD j 0 = 0)) (fun i => (intOf i).toNat)
  case atStart => exact ⟨n, by omega, rfl, fun j h1 h2 => absurd h1 (by omega)⟩
  case round =>
    obtain ⟨k, hkn, rfl, hz⟩ := hrel
    rcases Nat.eq_zero_or_pos k with h0 | h0
    · subst h0
      have HV := Lib.hid (digs_take hLx 0 (by omega) (fun j h1 h2 => hz.out j h1 (by rw [HL.out] at h2; exact h2)) (fun h => absurd h (by omega)))
      have hv0 : val xs = 0 := by have := HV.out; rwa [List.take_zero, digs_ne] at this
      have HV0 := Lib.hid hv0
      clear hv0
      have HT := (((ha.take (0) (by omega)).more hB).alloc (Nat.le_refl _) (.cells #[.bool false, .slice none 0 0] 27)).alloc (by simp) (.cells #[] 67)
      go_wp2_with (at_builtin; refine wpList_append_lim _ rfl (.tmp 25) (.tmp 28) rfl (w.heap.size + 1) (.slice (some ⟨w.heap.size + 1, 0, none⟩) 0 0) 0 [] rfl ?h1 ?h2 w.heap.size A (0) c (xs.take (0)) rfl ?h3 ?h4 ?h5 ?h6)
      all_goals (first | exact E0 | exact HT | exact limbs_nil | omega | simp | skip)
      case h6 =>
        intro A' c' w1 hl ho hg
        have B1 : Below w.heap.size w w1 := (((Below.refl w.heap.size w).alloc (Nat.le_refl _) _).alloc (by simp) _).grown hg (by simp; omega) (fun j hj => by simp [Value.ownBlock] at hj; omega)
        obtain ⟨k0, k1, f0, f1, _⟩ := (Slot2.grown (S0.alloc (.cells #[] 67)) hg (by simp [Value.ownBlock]))
        go_wp2
        refine bodyPost_ret (v := .agg #[.bool false, .slice A' (0 + (0)) c']) (by simp [results, Tryd.results16, go_sem, k0, k1]) rfl ⟨_, A', _, c', rfl, ?_, (B1.setCell (by simp) _).setCell (by simp) _⟩
        refine IsInt.stored ⟨?_, ?_⟩ k0 k1 rfl rfl _ _
        · rw [zOf_neg, HV0.out]; rfl
        · rw [zOf_natAbs, HV.out]; exact hl
    · obtain ⟨k, rfl⟩ : ∃ j, k = j + 1 := ⟨k - 1, by omega⟩
      obtain ⟨ad, rfl, _, x, hx, hxl, hcx⟩ := ((ha.more hB).alloc (Nat.le_refl _) (.cells #[.bool false, .slice none 0 0] 27)).at_ (show k < n by omega)
      by_cases h1 : x = 0
      · subst h1
        go_wp2
        refine ⟨⟨k, by omega, rfl, fun j h1 h2 => ?_⟩, by simp [intOf] <;> omega⟩
        rcases Nat.eq_or_lt_of_le h1 with e | e
        · subst e; exact hx.out.symm
        · exact hz.out j (by omega) h2
      · have hb1 : ((x : Int) == 0) = false := by simp; omega
        have HV := Lib.hid (digs_take hLx (k + 1) (by rw [HL.out]; omega) (fun j h1 h2 => hz.out j h1 (by rw [HL.out] at h2; exact h2)) (fun _ => by rw [Nat.add_sub_cancel, ← hx.out]; exact h1))
        have hv0 : 0 < val xs := by
          rcases Nat.eq_zero_or_pos (val xs) with e | e
          · have h2 := HV.out
            have h3 : (xs.take (k + 1)).length = k + 1 := by rw [List.length_take, HL.out]; omega
            rw [← h2, e, digs_zero] at h3
            simp at h3
          · exact e
        have HV0 := Lib.hid hv0
        clear hv0 h1
        have HT := (((ha.take (k + 1) (by omega)).more hB).alloc (Nat.le_refl _) (.cells #[.bool false, .slice none 0 0] 27)).alloc (by simp) (.cells #[] 67)
        go_wp2_with (at_builtin; refine wpList_append_lim _ rfl (.tmp 25) (.tmp 28) rfl (w.heap.size + 1) (.slice (some ⟨w.heap.size + 1, 0, none⟩) 0 0) 0 [] rfl ?g1 ?g2 w.heap.size (some ad) (k + 1) c (xs.take (k + 1)) rfl ?g3 ?g4 ?g5 ?g6)
        all_goals (first | exact E0 | exact HT | exact limbs_nil | omega | simp | skip)
        case g6 =>
          intro A' c' w1 hl ho hg
          have B1 : Below w.heap.size w w1 := (((Below.refl w.heap.size w).alloc (Nat.le_refl _) _).alloc (by simp) _).grown hg (by simp; omega) (fun j hj => by simp [Value.ownBlock] at hj; omega)
          obtain ⟨k0, k1, f0, f1, _⟩ := (Slot2.grown (S0.alloc (.cells #[] 67)) hg (by simp [Value.ownBlock]))
          go_wp2
          refine bodyPost_ret (v := .agg #[.bool true, .slice A' (k + 1) c']) (by simp [results, Tryd.results16, go_sem, k0, k1]) rfl ⟨_, A', _, c', rfl, ?_, (B1.setCell (by simp) _).setCell (by simp) _⟩
          refine IsInt.stored ⟨?_, ?_⟩ k0 k1 rfl rfl _ _
          · rw [zOf_neg, decide_eq_true HV0.out]; rfl
          · rw [zOf_natAbs, HV.out]; exact hl
theorem Made_any (neg : Bool) (A : Option Addr) (n c B : Nat) (xs : List Nat) (w : World) (ha : Lim w B A n c xs) (hB : B ≤ w.heap.size) (hn : n ≤ 1000000) :
    Calls Tryd.prog 16 #[.slice A n c, .bool neg] w (RetInt w (zOf neg (val xs))) := by
  cases neg
  · exact Made_false A n c B xs w ha hB hn
  · exact Made_true A n c B xs w ha hB hn
end Go.Proofs.YtnlmdjbakcjhbaaDoor
namespace Go.Proofs.YtnlmdjbakcjhbaaDoor
open Go.RowKit
set_option maxHeartbeats 400000 in
theorem rneg_any (neg : Bool) (A : Option Addr) (n c : Nat) (z : Int) (w : World) (ha : IsInt w neg A n c z) (hn : n ≤ 1000000) :
    Calls Tryd.prog 64 #[.agg #[.bool neg, .slice A n c]] w (RetInt w (-z)) := by
  have H2 := fun W (hW : Below w.heap.size w W) => Made_any (!neg) A n c w.heap.size (digs z.natAbs) W (ha.lim.below hW) hW.size hn
  have e1 : zOf (!neg) (val (digs z.natAbs)) = -z := by rw [val_digs, ha.sign]; exact zOf_not z
  simp only [e1] at H2
  have H2' := Lib.hid H2
  clear H2 e1
  obtain ⟨HB, P0, R0⟩ := frame11 w (.bool neg) (.slice A n c)
  go_enter Tryd.func64, Tryd.ntmps64
  go_wp2_with fail
  refine (H2'.out _ HB).mono ?_
  rintro e w2 ⟨neg2, A2, n2, c2, rfl, hi2, hb2⟩
  obtain ⟨k0, k1, f0, f1, _⟩ := R0.after hb2
  go_wp2
  exact bodyPost_ret (v := .agg #[.bool neg2, .slice A2 n2 c2]) (by simp [results, Tryd.results64, go_sem, k0, k1]) rfl
    (RetInt.stored hi2 HB hb2 (by omega) k0 k1 rfl rfl)
set_option maxHeartbeats 400000 in
theorem rabs_any (neg : Bool) (A : Option Addr) (n c : Nat) (z : Int) (w : World) (ha : IsInt w neg A n c z) (hn : n ≤ 1000000) :
    Calls Tryd.prog 24 #[.agg #[.bool neg, .slice A n c]] w (RetInt w (z.natAbs : Int)) := by
  have H2 := fun W (hW : Below w.heap.size w W) => Made_any false A n c w.heap.size (digs z.natAbs) W (ha.lim.below hW) hW.size hn
  have e1 : zOf false (val (digs z.natAbs)) = (z.natAbs : Int) := by rw [val_digs]; rfl
  simp only [e1] at H2
  have H2' := Lib.hid H2
  clear H2 e1
  obtain ⟨HB, P0, R0⟩ := frame11 w (.bool neg) (.slice A n c)
  go_enter Tryd.func24, Tryd.ntmps24
  go_wp2_with fail
  refine (H2'.out _ HB).mono ?_
  rintro e w2 ⟨neg2, A2, n2, c2, rfl, hi2, hb2⟩
  obtain ⟨k0, k1, f0, f1, _⟩ := R0.after hb2
  go_wp2
  exact bodyPost_ret (v := .agg #[.bool neg2, .slice A2 n2 c2]) (by simp [results, Tryd.results24, go_sem, k0, k1]) rfl
    (RetInt.stored hi2 HB hb2 (by omega) k0 k1 rfl rfl)

theorem val_two (x : Nat) : val [x % 4294967296, x / 4294967296] = x := by
  simp only [val]; omega
set_option maxHeartbeats 400000 in
theorem rof_any (n : Int) (w : World) (h1 : -9223372036854775808 ≤ n) (h2 : n ≤ 9223372036854775807) :
    Calls Tryd.prog 26 #[.int .i64 n] w (RetInt w n) := by
  have R0 := Slot2.new w (.bool false) (.slice none 0 0) 27
  have HB := (Below.refl w.heap.size w).alloc (Nat.le_refl _) (.cells #[.bool false, .slice none 0 0] 27)
  have H : ∀ (neg : Bool) (x : Nat) (o : Array Value), x < 18446744073709551616 → zOf neg x = n → o = (ints [x % 4294967296, x / 4294967296]).toArray → Calls Tryd.prog 16 #[.slice (some ⟨w.heap.size + 1, 0, none⟩) 2 2, .bool neg]
      ((w.alloc (.cells #[.bool false, .slice none 0 0] 27)).alloc (.cells o 67)) (RetInt ((w.alloc (.cells #[.bool false, .slice none 0 0] 27)).alloc (.cells o 67)) n) := by
    intro neg x o hx hz ho
    have hr := row_new (w.alloc (.cells #[.bool false, .slice none 0 0] 27)) [x % 4294967296, x / 4294967296] o ho
    rw [World.size_alloc] at hr
    have := Made_any neg (some ⟨w.heap.size + 1, 0, none⟩) 2 2 _ [x % 4294967296, x / 4294967296] _ (hr.len_lim (fun z hz => by simp at hz; omega) 2 rfl (by omega)) (Nat.le_refl _) (by omega)
    rw [val_two x, hz] at this
    exact this
  have H' := Lib.hid H
  clear H
  by_cases h0 : n < 0
  · have HW := Lib.hid (wrap_neg_wrap n h1 h0)
    go_enter Tryd.func26, Tryd.ntmps26
    go_wp2_with fail
    rw [HW.out]
    refine (H'.out true n.natAbs _ (by omega) ?_ ?_).mono ?_
    · unfold zOf; simp; try omega
    · simp [ints]; try omega
    rintro e w2 ⟨neg2, A2, n2, c2, rfl, hi2, hb2⟩
    obtain ⟨k0, k1, f0, f1, _⟩ := (R0.alloc _).after hb2
    go_wp2
    exact bodyPost_ret (v := .agg #[.bool neg2, .slice A2 n2 c2]) (by simp [results, Tryd.results26, go_sem, k0, k1]) rfl
      (RetInt.stored hi2 (HB.alloc (by simp) _) hb2 (by omega) k0 k1 rfl rfl)
  · obtain ⟨n, rfl⟩ := Int.eq_ofNat_of_zero_le (show 0 ≤ n by omega)
    go_enter Tryd.func26, Tryd.ntmps26
    go_wp2_with fail
    refine (H'.out false n _ (by omega) ?_ ?_).mono ?_
    · unfold zOf; simp; try omega
    · simp [ints]; try omega
    rintro e w2 ⟨neg2, A2, n2, c2, rfl, hi2, hb2⟩
    obtain ⟨k0, k1, f0, f1, _⟩ := (R0.alloc _).after hb2
    go_wp2
    exact bodyPost_ret (v := .agg #[.bool neg2, .slice A2 n2 c2]) (by simp [results, Tryd.results26, go_sem, k0, k1]) rfl
      (RetInt.stored hi2 (HB.alloc (by simp) _) hb2 (by omega) k0 k1 rfl rfl)
end Go.Proofs.YtnlmdjbakcjhbaaDoor
namespace Go.Proofs.YtnlmdjbakcjhbaaDoor
open Go.RowKit
theorem cnt_le (n : Nat) (f g : Nat → Bool) (h : ∀ j, g j = true → f j = true) : (List.range n).countP g ≤ (List.range n).countP f :=
  List.countP_mono_left fun x _ hx => h x hx
theorem cnt_lt (n i : Nat) (f g : Nat → Bool) (hi : i < n) (h : ∀ j, g j = true → f j = true) (hf : f i = true) (hg : g i = false) : (List.range n).countP g < (List.range n).countP f := by
  induction n with
  | zero => omega
  | succ n ih =>
    rw [List.range_succ, List.countP_append, List.countP_append]
    by_cases e : i = n
    · subst e
      have := cnt_le i f g h
      simp [hf, hg]; omega
    · have := ih (by omega)
      have h2 : List.countP g [n] ≤ List.countP f [n] := List.countP_mono_left fun x _ hx => h x hx
      omega
/-- All of an operation's edges have been met. -/
def Met_ (done : Nat → Bool) (o : Oper) : Prop := ∀ e ∈ o.after, Region.binds .any e = true → done e.on = true
/-- What one operation has to do. -/
def StepEv (P : Program) (ops : Array Oper) (Q : Exit → Act → World → Prop) (J : (Nat → Bool) → Act → World → Prop) (i : Nat) (o : Oper) : Prop :=
  ∀ (done : Nat → Bool) (a : Act) (w : World), done i = false → Met_ done o → J done a w → ∀ K : Act → World → Prop, Shut (∀ a' w', J (fun j => done j || j == i) a' w' → K a' w') →
    if Region.wanted o (yielded ops a.tmps) = true then Oper.wp P o a w K Q else K (a.put o.dst undef) w
/-- Every edge goes back. -/
def forwardB (ops : Array Oper) : Bool := (List.range ops.size).all fun i => match ops[i]? with
  | some o => o.after.all fun e => !Region.binds .any e || decide (e.on < i)
  | none => true
theorem forward_spec {ops : Array Oper} (h : forwardB ops = true) {i : Nat} {o : Oper} (ho : ops[i]? = some o) {e : Edge} (he : e ∈ o.after) (hb : Region.binds .any e = true) : e.on < i := by
  have hlt : i < ops.size := (Array.getElem?_eq_some_iff.1 ho).1
  simp only [forwardB, List.all_eq_true, List.mem_range] at h
  have h1 := h i hlt
  rw [ho] at h1
  have h2 := (Array.all_eq_true_iff_forall_mem.1 h1) e he
  simpa [hb] using h2
theorem all_of_none {ops : Array Oper} (h : forwardB ops = true) {listed : Array Bool} (hs : listed.size = ops.size) (hr : Region.ready .any ops listed = []) : ∀ i, i < ops.size → listed.getD i false = true := by
  intro i
  induction i using Nat.strongRecOn with
  | ind i ih =>
    intro hi
    cases hl : listed.getD i false with
    | true => rfl
    | false =>
      exfalso
      have hmem : i ∈ Region.ready .any ops listed := by
        rw [mem_ready]
        refine ⟨?_, ops[i], Array.getElem?_eq_getElem hi, fun e he hb => ?_⟩
        · have h2 : i < listed.size := by omega
          simp [h2] at hl ⊢
          exact hl
        · exact ih e.on (forward_spec h (Array.getElem?_eq_getElem hi) he hb) (by have := forward_spec h (Array.getElem?_eq_getElem hi) he hb; omega)
      rw [hr] at hmem
      cases hmem
theorem wpAny_ev {P : Program} {ops : Array Oper} {Q : Exit → Act → World → Prop} (h : forwardB ops = true) (J : (Nat → Bool) → Act → World → Prop)
    (hJ : ∀ d d' : Nat → Bool, (∀ i, d i = d' i) → ∀ a w, J d a w → J d' a w)
    (step : ∀ i o, ops[i]? = some o → StepEv P ops Q J i o) (fin : ∀ done a w, (∀ i, i < ops.size → done i = true) → J done a w → Q .normal a w) :
    ∀ fuel (listed : Array Bool) a w, listed.size = ops.size → (List.range ops.size).countP (fun j => !listed.getD j false) ≤ fuel → J (fun j => listed.getD j false) a w → wpAny P .any ops Q fuel listed a w := by
  intro fuel
  induction fuel with
  | zero =>
    intro listed a w hs hc hj
    have hall : ∀ i, i < ops.size → listed.getD i false = true := by
      intro i hi
      have h0 := List.countP_eq_zero.1 (Nat.le_zero.1 hc) i (List.mem_range.2 hi)
      simpa using h0
    refine ⟨?_, fin _ a w hall hj⟩
    rcases hr : Region.ready .any ops listed with _ | ⟨i, l⟩
    · rfl
    · have hmem : i ∈ Region.ready .any ops listed := by rw [hr]; exact List.mem_cons_self
      rw [mem_ready] at hmem
      obtain ⟨h1, o, ho, _⟩ := hmem
      have hi : i < ops.size := (Array.getElem?_eq_some_iff.1 ho).1
      have h2 := hall i hi
      have h3 : i < listed.size := by omega
      simp [h3] at h1 h2
      rw [h1] at h2
      cases h2
  | succ fuel ih =>
    intro listed a w hs hc hj
    refine ⟨fun hr => fin _ a w (all_of_none h hs hr) hj, fun i hmem => ?_⟩
    rw [mem_ready] at hmem
    obtain ⟨h1, o, ho, hall⟩ := hmem
    have hi : i < ops.size := (Array.getElem?_eq_some_iff.1 ho).1
    have h3 : i < listed.size := by omega
    have h0 : listed.getD i false = false := by simp [h3] at h1 ⊢; exact h1
    refine wpOp_step ho fun K hK => ?_
    refine step i o ho (fun j => listed.getD j false) a w h0 hall hj K fun a' w' hj' => hK a' w' ?_
    refine ih (listed.setIfInBounds i true) a' w' (by simpa using hs) ?_ (hJ _ _ (fun j => ?_) a' w' hj')
    · have := cnt_lt ops.size i (fun j => !listed.getD j false) (fun j => !(listed.setIfInBounds i true).getD j false) hi (fun j hj => ?_) (by simp only [h0]; rfl) (by simp [h3])
      · omega
      · by_cases e : i = j
        · subst e; simp [h3] at hj
        · rwa [_root_.Go.getD_set_ne false e] at hj
    · by_cases e : i = j
      · subst e; simp [h3]
      · rw [_root_.Go.getD_set_ne false e]
        have : (j == i) = false := by simp; omega
        simp [this]
/-- One proof for each of a list's operations. -/
def StepsEv (P : Program) (ops : Array Oper) (Q : Exit → Act → World → Prop) (J : (Nat → Bool) → Act → World → Prop) : Nat → List Oper → Prop
  | _, [] => True
  | k, o :: l => StepEv P ops Q J k o ∧ StepsEv P ops Q J (k + 1) l
theorem steps_get {P : Program} {ops : Array Oper} {Q : Exit → Act → World → Prop} {J : (Nat → Bool) → Act → World → Prop} : ∀ (l : List Oper) (k i : Nat) (o : Oper), StepsEv P ops Q J k l → l[i]? = some o → StepEv P ops Q J (k + i) o
  | [], _, _, _, _, h => by simp at h
  | x :: l, k, 0, o, hs, h => by
    simp at h; subst h; exact hs.1
  | x :: l, k, i + 1, o, hs, h => by
    have := steps_get l (k + 1) i o hs.2 (by simpa using h)
    rwa [show k + 1 + i = k + (i + 1) by omega] at this
/-- THE RULE: what holds once a set of operations is done (J: of the frame at the region's head, the frame and the world). -/
theorem wp_region_ev {P : Program} {ops : List Oper} {id : Nat} {Q : Exit → Act → World → Prop} {a : Act} {w : World} (J : (Nat → Bool) → Act → Act → World → Prop) (hm : P.follows .mixedOrders = true) (h : forwardB ops.toArray = true)
    (hJ : ∀ d d' : Nat → Bool, (∀ i, d i = d' i) → ∀ a' w', J d a a' w' → J d' a a' w')
    (init : J (fun _ => false) a a w.drew) (steps : StepsEv P ops.toArray Q (fun d => J d a) 0 ops) (fin : ∀ done a' w', (∀ i, i < ops.length → done i = true) → J done a a' w' → Q .normal a' w') : (Code.region id ops.toArray true).wp P Q a w := by
  refine wp_region_any hm ?_
  refine wpAny_ev h (fun d => J d a) hJ (fun i o ho => ?_) (fun done a' w' hall hj => fin done a' w' (by simpa using hall) hj) _ _ _ _ (by simp) ?_ (hJ _ _ (fun i => ?_) _ _ init)
  · have := steps_get (P := P) (ops := ops.toArray) (Q := Q) ops 0 i o steps (by simpa using ho)
    rwa [Nat.zero_add] at this
  · refine Nat.le_trans List.countP_le_length (by simp)
  · by_cases e : i < ops.length <;> simp [e]
end Go.Proofs.YtnlmdjbakcjhbaaDoor
namespace Go.Proofs.YtnlmdjbakcjhbaaDoor
open Go.RowKit
/-- The struct at block g holds the valid integer z. -/
def IntAt (w : World) (g : Nat) (z : Int) : Prop := ∃ neg A n c, Slot2 w g (.bool neg) (.slice A n c) ∧ IsInt w neg A n c z
theorem IntAt.after {w w' : World} {g : Nat} {z : Int} (h : IntAt w g z) (hb : Below w.heap.size w w') : IntAt w' g z := by
  obtain ⟨neg, A, n, c, h1, h2⟩ := h
  exact ⟨neg, A, n, c, h1.after hb, h2.below hb⟩
theorem IntAt.new {w : World} {neg : Bool} {A : Option Addr} {n c : Nat} {z : Int} (h : IsInt w neg A n c z) : IntAt (w.alloc (.cells #[.bool neg, .slice A n c] 27)) w.heap.size z :=
  ⟨neg, A, n, c, Slot2.new w _ _ _, h.below ((Below.refl _ _).alloc (Nat.le_refl _) _)⟩
def Bag (w : World) (l : List (Nat × Int)) : Prop := ∀ p ∈ l, IntAt w p.1 p.2
theorem Bag.after {w w' : World} {l : List (Nat × Int)} (h : Bag w l) (hb : Below w.heap.size w w') : Bag w' l := fun p hp => (h p hp).after hb
theorem Bag.cons {w : World} {g : Nat} {z : Int} {l : List (Nat × Int)} (h : IntAt w g z) (hl : Bag w l) : Bag w ((g, z) :: l) := by
  intro p hp
  rcases List.mem_cons.1 hp with rfl | hp
  · exact h
  · exact hl p hp
theorem bag_nil (w : World) : Bag w [] := fun p hp => by cases hp
theorem Bag.new {w : World} {neg : Bool} {A : Option Addr} {n c : Nat} {z : Int} {l : List (Nat × Int)} (hl : Bag w l) (h : IsInt w neg A n c z) : Bag (w.alloc (.cells #[.bool neg, .slice A n c] 27)) ((w.heap.size, z) :: l) :=
  Bag.cons (IntAt.new h) (hl.after ((Below.refl _ _).alloc (Nat.le_refl _) _))
/-- The value v is the valid integer z. -/
def IntV (w : World) (v : Value) (z : Int) : Prop := ∃ neg A n c, v = .agg #[.bool neg, .slice A n c] ∧ IsInt w neg A n c z
theorem IntV.below {w w' : World} {v : Value} {z : Int} (h : IntV w v z) (hb : Below w.heap.size w w') : IntV w' v z := by
  obtain ⟨neg, A, n, c, e, hi⟩ := h
  exact ⟨neg, A, n, c, e, hi.below hb⟩
theorem IntV.drew {w : World} {v : Value} {z : Int} (h : IntV w v z) : IntV w.drew v z := h.below (Below.refl _ _).drew
/-- The pointer v points to a struct of two cells of the call's own, made since B: not yet written, or holding the integer z. -/
def OwnP (B : Nat) (w : World) (v : Value) (st : Bool) (z : Int) : Prop := ∃ g, v = .pointer (some ⟨g, 0, none⟩) ∧ B ≤ g ∧ ∃ a0 a1, Slot2 w g a0 a1 ∧ noLimb a0 = true ∧ noLimb a1 = true ∧ (st = true → IntV w (.agg #[a0, a1]) z)
theorem OwnP.below {B : Nat} {w w' : World} {v : Value} {st : Bool} {z : Int} (h : OwnP B w v st z) (hb : Below w.heap.size w w') : OwnP B w' v st z := by
  obtain ⟨g, e, hg, a0, a1, hs, n0, n1, hi⟩ := h
  exact ⟨g, e, hg, a0, a1, hs.after hb, n0, n1, fun h => (hi h).below hb⟩
/-- A new struct. -/
theorem OwnP.new {B : Nat} {w : World} (hB : B ≤ w.heap.size) (z : Int) : OwnP B (w.alloc (.cells #[.bool false, .slice none 0 0] 27)) (.pointer (some ⟨w.heap.size, 0, none⟩)) false z :=
  ⟨_, rfl, hB, _, _, Slot2.new w _ _ _, rfl, rfl, fun h => by cases h⟩
theorem IsInt.set2 {w : World} {neg : Bool} {A : Option Addr} {n c : Nat} {z : Int} (h : IsInt w neg A n c z) {g : Nat} {a0 a1 : Value} (hs : Slot2 w g a0 a1) (n0 : noLimb a0 = true) (n1 : noLimb a1 = true) (u0 u1 : Value) :
    IsInt ((w.setCell ⟨g, 0, none⟩ u0).setCell ⟨g, 1, none⟩ u1) neg A n c z := h.stored hs.1 hs.2.1 n0 n1 u0 u1
theorem IntV.set2 {w : World} {v : Value} {z : Int} (h : IntV w v z) {g : Nat} {a0 a1 : Value} (hs : Slot2 w g a0 a1) (n0 : noLimb a0 = true) (n1 : noLimb a1 = true) (u0 u1 : Value) : IntV ((w.setCell ⟨g, 0, none⟩ u0).setCell ⟨g, 1, none⟩ u1) v z := by
  obtain ⟨neg, A, n, c, e, hi⟩ := h
  exact ⟨neg, A, n, c, e, hi.set2 hs n0 n1 u0 u1⟩
/-- A tuple of two integers and a code. -/
def TupV (w : World) (v : Value) (q r : Int) (e : Int) : Prop := ∃ v1 v2, v = .tuple #[v1, v2, .int .i64 e] ∧ IntV w v1 q ∧ IntV w v2 r
theorem TupV.below {w w' : World} {v : Value} {q r e : Int} (h : TupV w v q r e) (hb : Below w.heap.size w w') : TupV w' v q r e := by
  obtain ⟨v1, v2, e1, h1, h2⟩ := h
  exact ⟨v1, v2, e1, h1.below hb, h2.below hb⟩
theorem TupV.set2 {w : World} {v : Value} {q r e : Int} (h : TupV w v q r e) {g : Nat} {a0 a1 : Value} (hs : Slot2 w g a0 a1) (n0 : noLimb a0 = true) (n1 : noLimb a1 = true) (u0 u1 : Value) : TupV ((w.setCell ⟨g, 0, none⟩ u0).setCell ⟨g, 1, none⟩ u1) v q r e := by
  obtain ⟨v1, v2, e1, h1, h2⟩ := h
  exact ⟨v1, v2, e1, h1.set2 hs n0 n1 u0 u1, h2.set2 hs n0 n1 u0 u1⟩
/-- A store of an integer into one of them leaves the others. -/
theorem OwnP.far {B : Nat} {w : World} {v : Value} {st : Bool} {z : Int} (h : OwnP B w v st z) {g : Nat} (hne : v ≠ .pointer (some ⟨g, 0, none⟩)) {a0 a1 : Value} (hs : Slot2 w g a0 a1) (n0 : noLimb a0 = true) (n1 : noLimb a1 = true) (u0 u1 : Value) :
    OwnP B ((w.setCell ⟨g, 0, none⟩ u0).setCell ⟨g, 1, none⟩ u1) v st z := by
  obtain ⟨g', e, hg, b0, b1, hs', m0, m1, hi⟩ := h
  have hgg : g' ≠ g := fun h => hne (by rw [e, h])
  exact ⟨g', e, hg, b0, b1, hs'.far2 hgg u0 u1, m0, m1, fun h => (hi h).set2 hs n0 n1 u0 u1⟩
theorem OwnP.near {B : Nat} {w : World} {g : Nat} {z : Int} {neg : Bool} {A : Option Addr} {n c : Nat} (hi : IsInt w neg A n c z) (hg : B ≤ g) {a0 a1 : Value} (hs : Slot2 w g a0 a1) (n0 : noLimb a0 = true) (n1 : noLimb a1 = true) :
    OwnP B ((w.setCell ⟨g, 0, none⟩ (.bool neg)).setCell ⟨g, 1, none⟩ (.slice A n c)) (.pointer (some ⟨g, 0, none⟩)) true z :=
  ⟨g, rfl, hg, _, _, hs.set2 _ _, rfl, rfl, fun _ => ⟨neg, A, n, c, rfl, hi.set2 hs n0 n1 _ _⟩⟩
theorem OwnP.intAt {B : Nat} {w : World} {v : Value} {z : Int} (h : OwnP B w v true z) : ∃ g, v = .pointer (some ⟨g, 0, none⟩) ∧ IntAt w g z := by
  obtain ⟨g, e, _, a0, a1, hs, _, _, hi⟩ := h
  obtain ⟨neg, A, n, c, e2, hz⟩ := hi rfl
  have e3 : a0 = .bool neg ∧ a1 = .slice A n c := by simpa using e2
  rw [e3.1, e3.2] at hs
  exact ⟨g, e, neg, A, n, c, hs, hz⟩
theorem OwnP.intAtB {B : Nat} {w : World} {v : Value} {z : Int} (h : OwnP B w v true z) : ∃ g, v = .pointer (some ⟨g, 0, none⟩) ∧ IntAt w g z ∧ B ≤ g := by
  obtain ⟨g, e, hB, a0, a1, hs, _, _, hi⟩ := h
  obtain ⟨neg, A, n, c, e2, hz⟩ := hi rfl
  have e3 : a0 = .bool neg ∧ a1 = .slice A n c := by simpa using e2
  rw [e3.1, e3.2] at hs
  exact ⟨g, e, ⟨neg, A, n, c, hs, hz⟩, hB⟩
theorem IntAt.far2 {w : World} {g g' : Nat} {z : Int} (h : IntAt w g z) (hne : g ≠ g') {a0 a1 : Value} (hs : Slot2 w g' a0 a1) (n0 : noLimb a0 = true) (n1 : noLimb a1 = true) (u0 u1 : Value) : IntAt ((w.setCell ⟨g', 0, none⟩ u0).setCell ⟨g', 1, none⟩ u1) g z := by
  obtain ⟨neg, A, n, c, h1, h2⟩ := h
  exact ⟨neg, A, n, c, h1.far2 hne u0 u1, h2.set2 hs n0 n1 u0 u1⟩
theorem IntAt.near2 {w : World} {g : Nat} {z : Int} {neg : Bool} {A : Option Addr} {n c : Nat} (hi : IsInt w neg A n c z) {a0 a1 : Value} (hs : Slot2 w g a0 a1) (n0 : noLimb a0 = true) (n1 : noLimb a1 = true) : IntAt ((w.setCell ⟨g, 0, none⟩ (.bool neg)).setCell ⟨g, 1, none⟩ (.slice A n c)) g z :=
  ⟨neg, A, n, c, hs.set2 _ _, hi.set2 hs n0 n1 _ _⟩
/-- Two of them lie apart where one is new. -/
theorem OwnP.lt {B : Nat} {w : World} {v : Value} {st : Bool} {z : Int} (h : OwnP B w v st z) : v ≠ .pointer (some ⟨w.heap.size, 0, none⟩) := by
  obtain ⟨g, e, _, a0, a1, hs, _, _, _⟩ := h
  have := hs.2.2.2.2
  rw [e]
  intro h
  have e := congrArg (fun v => match v with | .pointer (some a) => a.block | _ => 0) h
  have e2 : g = w.heap.size := e
  omega
theorem Below.set2 {B : Nat} {w0 w : World} (h : Below B w0 w) {g : Nat} (hg : B ≤ g) (u0 u1 : Value) : Below B w0 ((w.setCell ⟨g, 0, none⟩ u0).setCell ⟨g, 1, none⟩ u1) := (h.setCell hg _).setCell hg _
end Go.Proofs.YtnlmdjbakcjhbaaDoor
namespace Go.Proofs.YtnlmdjbakcjhbaaDoor
open Go.RowKit
/-- A way through a region: i alone comes up (one); i is taken first (take); i or m comes up (two). -/
inductive Way where
  | done
  | one (i : Nat) (t : Way)
  | take (i : Nat) (t : Way)
  | two (i : Nat) (t : Way) (m : Nat) (u : Way)
/-- (i, true): taken first; (i, false): alone. -/
def Way.pre : List (Nat × Bool) → Way → Way
  | [], t => t
  | (i, true) :: l, t => .take i (Way.pre l t)
  | (i, false) :: l, t => .one i (Way.pre l t)
def wpSeqH (P : Program) (ops : Array Oper) (Q : Exit → Act → World → Prop) (S : World → Prop) : Way → Act → World → Prop
  | .done, a, w => Q .normal a w
  | .one i t, a, w => wpOp P ops Q i (fun a' w' => S w' ∧ (S w' → wpSeqH P ops Q S t a' w')) a w
  | .take i t, a, w => ∃ o v, ops[i]? = some o ∧ YieldsIf P ops S o v a ∧ wpSeqH P ops Q S t (a.put o.dst v) w
  | .two i t m u, a, w => wpOp P ops Q i (fun a' w' => S w' ∧ (S w' → wpSeqH P ops Q S t a' w')) a w ∧ wpOp P ops Q m (fun a' w' => S w' ∧ (S w' → wpSeqH P ops Q S u a' w')) a w
def Way.len : Way → Nat
  | .done => 0
  | .one _ t => t.len + 1
  | .take _ t => t.len + 1
  | .two _ t _ _ => t.len + 1
def chkSeq (ops : Array Oper) : Way → Array Bool → Bool
  | .done, listed => (Region.ready .any ops listed).isEmpty
  | .one i t, listed => decide (Region.ready .any ops listed = [i]) && chkSeq ops t (listed.setIfInBounds i true)
  | .take i t, listed => (Region.ready .any ops listed).contains i && Region.free .any ops listed i && chkSeq ops t (listed.setIfInBounds i true)
  | .two i t m u, listed => decide (Region.ready .any ops listed = [i, m]) && decide (t.len = u.len) && chkSeq ops t (listed.setIfInBounds i true) && chkSeq ops u (listed.setIfInBounds m true)
theorem wpAnyH_seq {P : Program} {ops : Array Oper} {Q : Exit → Act → World → Prop} {S : World → Prop} (hs : Region.noSelect ops = true) (hQ : ∀ (c : _) (a : Act) (d : Option Tmp) (v : Value) (w : World), Q (.panic c) (a.put d v) w → Q (.panic c) a w) :
    ∀ (l : Way) (listed : Array Bool) (a : Act) (w : World), chkSeq ops l listed = true → S w → wpSeqH P ops Q S l a w → wpAnyH P .any ops Q S l.len listed a w
  | .done, listed, a, w, hc, _, h => wpAnyH_done (by simpa [chkSeq] using hc) h _
  | .one i l, listed, a, w, hc, hS, h => by
    simp only [chkSeq, Bool.and_eq_true, decide_eq_true_eq] at hc
    refine wpAnyH_all hc.1 (by simp) fun j hj => ?_
    obtain rfl : j = i := by simpa using hj
    exact wpOp_mono (fun a' w' h' => ⟨h'.1, wpAnyH_seq hs hQ l _ _ _ hc.2 h'.1 (h'.2 h'.1)⟩) h
  | .take i l, listed, a, w, hc, hS, h => by
    simp only [chkSeq, Bool.and_eq_true] at hc
    obtain ⟨o, v, ho, hy, h⟩ := h
    exact wpAnyH_take ho hs hc.1.2 hc.1.1 (fun c a w => hQ c a _ _ w) hy hS (wpAnyH_seq hs hQ l _ _ _ hc.2 hS h)
  | .two i l m u, listed, a, w, hc, hS, h => by
    simp only [chkSeq, Bool.and_eq_true, decide_eq_true_eq] at hc
    obtain ⟨⟨⟨hr, hl⟩, hc1⟩, hc2⟩ := hc
    refine wpAnyH_all hr (by simp) fun j hj => ?_
    have hj' : j = i ∨ j = m := by simpa using hj
    rcases hj' with rfl | rfl
    · exact wpOp_mono (fun a' w' h' => ⟨h'.1, wpAnyH_seq hs hQ l _ _ _ hc1 h'.1 (h'.2 h'.1)⟩) h.1
    · rw [hl]
      exact wpOp_mono (fun a' w' h' => ⟨h'.1, wpAnyH_seq hs hQ u _ _ _ hc2 h'.1 (h'.2 h'.1)⟩) h.2
theorem wp_region_seq {P : Program} {ops : Array Oper} {id : Nat} {Q : Exit → Act → World → Prop} {a : Act} {w : World} (l : Way) (S : World → Prop) (hm : P.follows .mixedOrders = true) (hs : Region.noSelect ops = true)
    (hc : chkSeq ops l (Array.replicate ops.size false) = true) (hl : l.len = ops.size) (hS : S w.drew) (h : wpSeqH P ops (NoPanic Q) S l a w.drew) : (Code.region id ops true).wp P Q a w := by
  refine wp_region_noPanic (wp_region_held_drew (S := S) hm hS fun _ => ?_)
  have := wpAnyH_seq hs (fun c a d v w h => (h : False).elim) l _ a w.drew hc hS h
  rwa [hl] at this
/-- The step of an operation that is taken first. (The operations as a list: so that the one at hand is found written out.) -/
theorem seq_take {P : Program} {L : List Oper} {Q : Exit → Act → World → Prop} {S : World → Prop} {i : Nat} {l : Way} {a : Act} {w : World} (o : Oper) (v : Value) (ho : L[i]? = some o) (hy : YieldsIf P L.toArray S o v a)
    (h : wpSeqH P L.toArray Q S l (a.put o.dst v) w) : wpSeqH P L.toArray Q S (.take i l) a w := ⟨o, v, by simpa using ho, hy, h⟩
/-- The step of a single operation: S is shown anew behind it. -/
theorem seq_one {P : Program} {L : List Oper} {Q : Exit → Act → World → Prop} {S : World → Prop} {i : Nat} {l : Way} {a : Act} {w : World} (o : Oper) (ho : L[i]? = some o)
    (h : ∀ K : Act → World → Prop, Shut (∀ a w, S w → (S w → wpSeqH P L.toArray Q S l a w) → K a w) → if Region.wanted o (yielded L.toArray a.tmps) = true then Oper.wp P o a w K Q else K (a.put o.dst undef) w) :
    wpSeqH P L.toArray Q S (.one i l) a w :=
  wpOp_step (o := o) (by simpa using ho) fun K hK => h K fun a w hS hW => hK a w ⟨hS, hW⟩
/-- The step of a pair. -/
theorem seq_two {P : Program} {L : List Oper} {Q : Exit → Act → World → Prop} {S : World → Prop} {i m : Nat} {l u : Way} {a : Act} {w : World}
    (h1 : wpSeqH P L.toArray Q S (.one i l) a w) (h2 : wpSeqH P L.toArray Q S (.one m u) a w) : wpSeqH P L.toArray Q S (.two i l m u) a w := ⟨h1, h2⟩
/-- The check in pieces. -/
def chkPre (ops : Array Oper) : List (Nat × Bool) → Array Bool → Bool
  | [], _ => true
  | (i, true) :: l, listed => (Region.ready .any ops listed).contains i && Region.free .any ops listed i && chkPre ops l (listed.setIfInBounds i true)
  | (i, false) :: l, listed => decide (Region.ready .any ops listed = [i]) && chkPre ops l (listed.setIfInBounds i true)
def aft : List (Nat × Bool) → Array Bool → Array Bool
  | [], listed => listed
  | (i, _) :: l, listed => aft l (listed.setIfInBounds i true)
theorem chk_pre {ops : Array Oper} : ∀ (l : List (Nat × Bool)) (t : Way) (listed : Array Bool), chkPre ops l listed = true → chkSeq ops t (aft l listed) = true → chkSeq ops (.pre l t) listed = true
  | [], _, _, _, h => h
  | (i, true) :: l, t, listed, h1, h2 => by
    simp only [chkPre, Bool.and_eq_true] at h1
    simp only [Way.pre, chkSeq, Bool.and_eq_true]
    exact ⟨h1.1, chk_pre l t _ h1.2 h2⟩
  | (i, false) :: l, t, listed, h1, h2 => by
    simp only [chkPre, Bool.and_eq_true] at h1
    simp only [Way.pre, chkSeq, Bool.and_eq_true]
    exact ⟨h1.1, chk_pre l t _ h1.2 h2⟩
theorem chk_two {ops : Array Oper} (i : Nat) (t : Way) (m : Nat) (u : Way) (listed : Array Bool) (h : (decide (Region.ready .any ops listed = [i, m]) && decide (t.len = u.len)) = true) (h1 : chkSeq ops t (listed.setIfInBounds i true) = true) (h2 : chkSeq ops u (listed.setIfInBounds m true) = true) :
    chkSeq ops (.two i t m u) listed = true := by
  simp only [chkSeq, Bool.and_eq_true] at h ⊢
  exact ⟨⟨h, h1⟩, h2⟩
/-- A region's operations, taken out of a function. -/
def opsOf : Code → List Oper
  | .region _ ops _ => ops.toList
  | _ => []
end Go.Proofs.YtnlmdjbakcjhbaaDoor
namespace Go.Proofs.YtnlmdjbakcjhbaaDoor
theorem val_split (xs : List Nat) (k : Nat) (h : k ≤ xs.length) : val xs = val (xs.take k) + 4294967296 ^ k * val (xs.drop k) := by
  have := val_append (xs.take k) (xs.drop k)
  rwa [List.take_append_drop, List.length_take, Nat.min_eq_left h] at this
theorem top_lt {xs : List Nat} {m : Nat} (hl : Limbs xs) (h : xs.length = m + 1) : val xs < 4294967296 ^ m * (xs.getD m 0 + 1) := by
  have h1 := val_take_succ xs m
  rw [List.take_of_length_le (by omega)] at h1
  have h2 := val_lt (limbs_take hl m)
  rw [List.length_take, Nat.min_eq_left (by omega)] at h2
  rw [Nat.mul_add]; omega
theorem top_le {xs : List Nat} {m : Nat} (h : xs.length = m + 1) : 4294967296 ^ m * xs.getD m 0 ≤ val xs := by
  have h1 := val_take_succ xs m
  rw [List.take_of_length_le (by omega)] at h1
  omega
theorem top2_le {xs : List Nat} {m : Nat} (h : xs.length = m + 2) : 4294967296 ^ m * (xs.getD (m + 1) 0 * 4294967296 + xs.getD m 0) ≤ val xs := by
  have h1 := val_take_succ xs (m + 1)
  rw [List.take_of_length_le (by omega)] at h1
  have h2 := val_take_succ xs m
  rw [Nat.pow_succ] at h1
  rw [Nat.mul_add, Nat.mul_comm (xs.getD (m + 1) 0), ← Nat.mul_assoc]
  omega
/-- The estimate at equal lengths. -/
theorem est_zero {r d m : Nat} (hr : (digs r).length = m + 1) (hd : (digs d).length = m + 1) (hdr : d ≤ r) : max 1 ((digs r).getD m 0 / ((digs d).getD m 0 + 1)) * d ≤ r := by
  have h1 := top_lt (limbs_digs d) hd
  have h2 := top_le hr
  rw [val_digs] at h1 h2
  generalize (digs r).getD m 0 = x at *
  generalize (digs d).getD m 0 + 1 = y at *
  rcases Nat.le_total (x / y) 1 with h | h
  · rw [Nat.max_eq_left h, Nat.one_mul]; exact hdr
  · rw [Nat.max_eq_right h]
    have h3 : x / y * y ≤ x := Nat.div_mul_le_self x y
    have h4 : x / y * d ≤ x / y * (4294967296 ^ m * y) := Nat.mul_le_mul_left _ (Nat.le_of_lt h1)
    have h5 : 4294967296 ^ m * (x / y * y) ≤ 4294967296 ^ m * x := Nat.mul_le_mul_left _ h3
    rw [Nat.mul_left_comm] at h4
    omega
/-- The estimate where the dividend is longer. -/
theorem est_more {r d m k : Nat} (hr : (digs r).length = m + 1 + (k + 1)) (hd : (digs d).length = m + 1) :
    1 ≤ ((digs r).getD (m + k + 1) 0 * 4294967296 + (digs r).getD (m + k) 0) / ((digs d).getD m 0 + 1) ∧
    ((digs r).getD (m + k + 1) 0 * 4294967296 + (digs r).getD (m + k) 0) / ((digs d).getD m 0 + 1) * 4294967296 ^ k * d ≤ r := by
  have h1 := top_lt (limbs_digs d) hd
  have h2 := top2_le (xs := digs r) (m := m + k) (by omega)
  have hx : 1 ≤ (digs r).getD (m + k + 1) 0 := by
    have hne : digs r ≠ [] := by intro e; rw [e] at hr; simp at hr
    have h3 := digs_last (n := r) hne
    rw [List.getLast_eq_getElem] at h3
    rw [List.getD_eq_getElem?_getD, List.getElem?_eq_getElem (by omega)]
    have e : (digs r).length - 1 = m + k + 1 := by omega
    simp only [e] at h3
    simp only [Option.getD_some]
    omega
  have hy : (digs d).getD m 0 < 4294967296 := by
    rw [List.getD_eq_getElem?_getD, List.getElem?_eq_getElem (by omega)]
    exact limbs_digs d _ (List.getElem_mem _)
  rw [val_digs] at h1 h2
  generalize (digs r).getD (m + k + 1) 0 = x at *
  generalize (digs r).getD (m + k) 0 = x2 at *
  generalize hY : (digs d).getD m 0 + 1 = y at *
  refine ⟨?_, ?_⟩
  · rw [Nat.le_div_iff_mul_le (by omega)]; omega
  · generalize hX : x * 4294967296 + x2 = X at *
    have h3 : X / y * y ≤ X := Nat.div_mul_le_self X y
    have h4 : X / y * 4294967296 ^ k * d ≤ X / y * 4294967296 ^ k * (4294967296 ^ m * y) := Nat.mul_le_mul_left _ (Nat.le_of_lt h1)
    have h5 : 4294967296 ^ (m + k) * (X / y * y) ≤ 4294967296 ^ (m + k) * X := Nat.mul_le_mul_left _ h3
    have e : X / y * 4294967296 ^ k * (4294967296 ^ m * y) = 4294967296 ^ (m + k) * (X / y * y) := by
      rw [Nat.pow_add]
      simp only [Nat.mul_comm, Nat.mul_left_comm, Nat.mul_assoc]
    omega
end Go.Proofs.YtnlmdjbakcjhbaaDoor
namespace Go.Proofs.YtnlmdjbakcjhbaaDoor
/-- What the estimate of a quotient's limb is: the quotient of the three highest limbs by two, but less than 2^32. -/
def estN (u v : Nat) : Nat := min 4294967295 (u / v)
theorem estN_of {u v g : Nat} (hv : 0 < v) (h1 : g ≤ 4294967295) (h2 : g * v ≤ u) (h3 : estN u v ≤ g) : g = estN u v := by
  have h4 : g ≤ u / v := (Nat.le_div_iff_mul_le hv).2 h2
  unfold estN at *; omega
theorem estN_lt {u v g : Nat} (hv : 0 < v) (h : 4294967295 < g ∨ u < g * v) : estN u v ≤ g - 1 := by
  unfold estN
  rcases h with h | h
  · omega
  · have : u / v < g := (Nat.div_lt_iff_lt_mul hv).2 h
    omega
/-- A dividend A = U P + l and a divisor D = V P + m: the estimate is the quotient or one more. -/
theorem est_near {A D U V P l m : Nat} (hA : A = U * P + l) (hD : D = V * P + m) (hl : l < P) (hm : m < P) (hq : A < 4294967296 * D) (hP : 4294967296 * P ≤ D) (hV : 0 < V) :
    A / D ≤ estN U V ∧ estN U V ≤ A / D + 1 := by
  have hP0 : 0 < P := by omega
  have hD0 : 0 < D := by omega
  have q1 : A / D < 4294967296 := (Nat.div_lt_iff_lt_mul hD0).2 hq
  have q2 : A / D * D ≤ A := Nat.div_mul_le_self A D
  refine ⟨?_, ?_⟩
  · have h1 : A / D * (V * P) ≤ A / D * D := Nat.mul_le_mul_left _ (by omega)
    have h2 : A / D * V * P < (U + 1) * P := by rw [Nat.mul_assoc, Nat.add_mul]; omega
    have h3 : A / D * V < U + 1 := Nat.lt_of_mul_lt_mul_right h2
    have h4 : A / D ≤ U / V := (Nat.le_div_iff_mul_le hV).2 (by omega)
    unfold estN; omega
  · have g1 : estN U V ≤ 4294967295 := by unfold estN; omega
    have g2 : estN U V * V ≤ U := Nat.le_trans (Nat.mul_le_mul_right _ (Nat.min_le_right _ _)) (Nat.div_mul_le_self U V)
    generalize estN U V = G at *
    have h1 : G * V * P ≤ U * P := Nat.mul_le_mul_right _ g2
    have h2 : G * m ≤ 4294967295 * P := Nat.mul_le_mul g1 (by omega)
    have h3 : G * D = G * V * P + G * m := by rw [hD, Nat.mul_add, Nat.mul_assoc]
    have h4 : G * D < A + D := by omega
    rcases Nat.eq_zero_or_pos G with h0 | h0
    · rw [h0]; exact Nat.zero_le _
    · have h5 : (G - 1) * D ≤ A := by rw [Nat.sub_mul, Nat.one_mul]; omega
      have := (Nat.le_div_iff_mul_le hD0).2 h5
      omega
/-- One limb of the subtraction of k times a limb. -/
theorem subm_limb {k d c a : Nat} (hk : k < 4294967296) (hd : d < 4294967296) (hc : c < 4294967296) :
    k * d + c < 18446744073709551616 - 4294967295 ∧ (k * d + c) / 4294967296 + (if a < (k * d + c) % 4294967296 then 1 else 0) < 4294967296 := by
  have h1 : k * d ≤ 4294967295 * 4294967295 := Nat.mul_le_mul (by omega) (by omega)
  refine ⟨by omega, ?_⟩
  split <;> omega
theorem subm_step {X Y V P a d c k a' c' : Nat} (h : X + c * P = V + k * Y) (ha : a + c' * 4294967296 = a' + (k * d + c)) :
    (X + P * a) + c' * (P * 4294967296) = (V + P * a') + k * (Y + P * d) := by
  have e1 : P * (a + c' * 4294967296) = P * (a' + (k * d + c)) := by rw [ha]
  simp only [Nat.mul_add] at e1 ⊢
  have e2 : P * (c' * 4294967296) = c' * (P * 4294967296) := by simp only [Nat.mul_left_comm]
  have e3 : P * (k * d) = k * (P * d) := by simp only [Nat.mul_left_comm]
  have e4 : P * c = c * P := Nat.mul_comm _ _
  omega
theorem subm_digit {a t a' c' : Nat} (hc : c' = t / 4294967296 + (if a < t % 4294967296 then 1 else 0)) (ha : a' = (a + 4294967296 - t % 4294967296) % 4294967296) (hal : a < 4294967296) : a + c' * 4294967296 = a' + t := by
  split at hc <;> omega
/-- What the subtraction of the estimate's multiple leaves: the remainder, or the remainder less the divisor, with a borrow. -/
theorem subm_end {A A0 D G q t c r B n : Nat} (hA : A = A0 + t * B) (hs : A0 + c * B = r + G * D) (hr : r < B) (hD : D ≤ B) (hq : q = A / D) (hD0 : 0 < D) (h1 : q ≤ G) (h2 : G ≤ q + 1) (_hn : n = n) :
    (¬ t < c → G = q ∧ r = A % D) ∧ (t < c → G = q + 1 ∧ r + D = A % D + B) := by
  have e := Nat.div_add_mod A D
  have hm := Nat.mod_lt A hD0
  rw [← hq] at e
  generalize A % D = m at *
  have hG : G = q ∨ G = q + 1 := by omega
  refine ⟨fun h => ?_, fun h => ?_⟩
  · rcases hG with rfl | rfl
    · refine ⟨rfl, ?_⟩
      have e2 : G * D = D * G := Nat.mul_comm _ _
      rcases Nat.lt_or_ge c t with h3 | h3
      · exfalso
        have : (c + 1) * B ≤ t * B := Nat.mul_le_mul_right _ h3
        rw [Nat.add_mul] at this
        omega
      · obtain rfl : c = t := by omega
        omega
    · exfalso
      have e2 : (q + 1) * D = D * q + D := by rw [Nat.add_mul, Nat.mul_comm]; omega
      have : c * B ≤ t * B := Nat.mul_le_mul_right _ (by omega)
      omega
  · have h3 : (t + 1) * B ≤ c * B := Nat.mul_le_mul_right _ h
    rw [Nat.add_mul] at h3
    rcases hG with rfl | rfl
    · exfalso
      have e2 : G * D = D * G := Nat.mul_comm _ _
      omega
    · refine ⟨rfl, ?_⟩
      have e2 : (q + 1) * D = D * q + D := by rw [Nat.add_mul, Nat.mul_comm]; omega
      rcases Nat.lt_or_ge (t + 1) c with h4 | h4
      · exfalso
        have : (t + 2) * B ≤ c * B := Nat.mul_le_mul_right _ h4
        rw [Nat.add_mul] at this
        omega
      · obtain rfl : c = t + 1 := by omega
        rw [Nat.add_mul] at hs
        omega
/-- The estimate's loop: what is put into the two words. -/
theorem est_test {g b1 b0 hi a0 r V U : Nat} (hV : V = b1 * 4294967296 + b0) (hU : U = hi * 4294967296 + a0) (hr : g * b1 + r = hi) : (r * 4294967296 + a0 < g * b0) ↔ U < g * V := by
  subst hV hU hr
  rw [Nat.mul_add, ← Nat.mul_assoc, Nat.add_mul]
  omega
theorem est_break {g b1 b0 hi a0 r V U : Nat} (hV : V = b1 * 4294967296 + b0) (hU : U = hi * 4294967296 + a0) (hr : g * b1 + r = hi) (h : 4294967296 ≤ r) (hg : g ≤ 4294967295) (hb : b0 < 4294967296) : g * V ≤ U := by
  subst hV hU hr
  have : g * b0 ≤ 4294967295 * 4294967295 := Nat.mul_le_mul hg (by omega)
  rw [Nat.mul_add, ← Nat.mul_assoc, Nat.add_mul]
  omega
theorem long_end {a b S v q : Nat} (hS : 0 < S) (hb : 0 < b) (h : v + b * S * q = a * S) (hv : v < b * S) : q = a / b ∧ v / S = a % b := by
  have h1 : a * S / (b * S) = q := by
    rw [← h, Nat.add_mul_div_left _ _ (Nat.mul_pos hb hS), Nat.div_eq_of_lt hv, Nat.zero_add]
  rw [Nat.mul_div_mul_right _ _ hS] at h1
  refine ⟨h1.symm, ?_⟩
  have h2 : a * S % (b * S) = v := by
    rw [← h, Nat.add_mul_mod_self_left, Nat.mod_eq_of_lt hv]
  rw [Nat.mul_mod_mul_right] at h2
  rw [← h2, Nat.mul_div_cancel _ hS]
end Go.Proofs.YtnlmdjbakcjhbaaDoor
namespace Go.Proofs.YtnlmdjbakcjhbaaDoor
open Go.RowKit
theorem est_hi {a1 a2 b1 : Nat} (h1 : a1 < 4294967296) (h2 : a2 ≤ b1) (hb : 2147483648 ≤ b1) : (a1 + 4294967296 * a2) / b1 ≤ 4294967297 := by
  have : (a1 + 4294967296 * a2) / b1 < 4294967298 := by
    rw [Nat.div_lt_iff_lt_mul (by omega)]; omega
  omega
set_option maxHeartbeats 1000000 in
theorem dlest_any (g o h o' c c' a0 a1 a2 b0 b1 : Nat) (w : World) (c0 : w.cell? ⟨g, o, none⟩ = some (.int .u32 (a0 : Int))) (c1 : w.cell? ⟨g, o + 1, none⟩ = some (.int .u32 (a1 : Int))) (c2 : w.cell? ⟨g, o + 2, none⟩ = some (.int .u32 (a2 : Int)))
    (d0 : w.cell? ⟨h, o', none⟩ = some (.int .u32 (b0 : Int))) (d1 : w.cell? ⟨h, o' + 1, none⟩ = some (.int .u32 (b1 : Int))) (ha0 : a0 < 4294967296) (ha1 : a1 < 4294967296) (ha2 : a2 ≤ b1) (hb0 : b0 < 4294967296) (hb1 : 2147483648 ≤ b1) (hb1' : b1 < 4294967296) :
    Calls Tryd.prog 126 #[.slice (some ⟨g, o, none⟩) 3 c, .slice (some ⟨h, o', none⟩) 2 c'] w fun e w' => e = .returned (.int .u64 ((estN ((a1 + 4294967296 * a2) * 4294967296 + a0) (b1 * 4294967296 + b0) : Nat) : Int)) ∧ Drawn w w' := by
  obtain ⟨hi, hhi⟩ : ∃ hi, hi = a1 + 4294967296 * a2 := ⟨_, rfl⟩
  have e1 : bits BinOp.or IntKind.u64 ((a2 : Int) * 4294967296) (a1 : Int) = (hi : Int) := by rw [or_limbs a1 a2 ha1 (by omega), hhi]
  have w1 : IntKind.u64.wrap ((a2 : Int) * 4294967296) = (a2 : Int) * 4294967296 := by rw [IntKind.wrap_u64]; omega
  have b1z : ((b1 : Int) == 0) = false := by simp; omega
  have hq := est_hi ha1 ha2 hb1
  rw [← hhi] at hq ⊢
  have hhl : hi < 18446744073709551616 := by omega
  have hdm := Nat.div_add_mod hi b1
  have hml := Nat.mod_lt hi (show 0 < b1 by omega)
  have hE : estN (hi * 4294967296 + a0) (b1 * 4294967296 + b0) ≤ hi / b1 := by
    unfold estN
    refine Nat.le_trans (Nat.min_le_right _ _) ?_
    have : (hi * 4294967296 + a0) / (b1 * 4294967296 + b0) < hi / b1 + 1 := by
      rw [Nat.div_lt_iff_lt_mul (by omega), Nat.add_mul, Nat.mul_add, ← Nat.mul_assoc, Nat.mul_comm (hi / b1) b1, Nat.one_mul]
      omega
    omega
  obtain ⟨E, hEd⟩ : ∃ E, E = estN (hi * 4294967296 + a0) (b1 * 4294967296 + b0) := ⟨_, rfl⟩
  rw [← hEd] at hE ⊢
  have e2 : (hi : Int) / (b1 : Int) = ((hi / b1 : Nat) : Int) := rfl
  have e3 : (hi : Int) % (b1 : Int) = ((hi % b1 : Nat) : Int) := rfl
  have e4 : (hi : Int).tmod (b1 : Int) = ((hi % b1 : Nat) : Int) := rfl
  have e5 : (hi : Int).tdiv (b1 : Int) = ((hi / b1 : Nat) : Int) := rfl
  generalize hi / b1 = Q at *
  generalize hi % b1 = R at *
  have w2 : IntKind.u64.wrap (Q : Int) = (Q : Int) := by rw [IntKind.wrap_u64]; omega
  have HED := Lib.hid hEd
  have HHI := Lib.hid hhi
  have HDM := Lib.hid hdm
  clear hEd hhi hdm
  go_enter Tryd.func126, Tryd.ntmps126
  go_wp2
  go_quiet (fail)
  go_wp2
  go_quiet (fail)
  clear w1 w2 e1 e2 e3 e4 e5
  go_wp2
  go_loopw [6, 7] (fun s6 s7 wr => ∃ G r : Nat, s6 = .int .u64 G ∧ s7 = .int .u64 r ∧ r < 4294967296 ∧ G ≤ 4294967297 ∧ E ≤ G ∧ Hid (G * b1 + r = hi) ∧ Drawn w wr) (fun s6 _ _ => (intOf s6).toNat)
  case atStart => exact ⟨Q, R, rfl, rfl, by omega, hq, hE, by rw [Hid, Nat.mul_comm]; exact HDM.out, ((Drawn.refl w).drewN _).drewN _⟩
  case round =>
    obtain ⟨G, r, rfl, rfl, hr, hG, hEG, hgr, hdr⟩ := hrel
    have k0 := hdr.cell ⟨g, o, none⟩
    have k1 := hdr.cell ⟨h, o', none⟩
    have k2 := hdr.cell ⟨h, o' + 1, none⟩
    rw [c0] at k0
    rw [d0] at k1
    rw [d1] at k2
    have hV : b1 * 4294967296 + b0 = b1 * 4294967296 + b0 := rfl
    have down : (4294967295 < G ∨ hi * 4294967296 + a0 < G * (b1 * 4294967296 + b0)) → 1 ≤ G ∧ E ≤ G - 1 ∧ (G - 1) * b1 + (r + b1) = hi ∧ (4294967295 < r + b1 → E = G - 1) := by
      intro h
      have h1 : 1 ≤ G := by
        rcases h with h | h
        · omega
        · rcases Nat.eq_zero_or_pos G with h0 | h0
          · rw [h0, Nat.zero_mul] at h; omega
          · exact h0
      have h2 : E ≤ G - 1 := by rw [HED.out]; exact estN_lt (by omega) h
      have h3 : (G - 1) * b1 + (r + b1) = hi := by
        have e : G * b1 = (G - 1) * b1 + b1 := by rw [Nat.sub_mul, Nat.one_mul, Nat.sub_add_cancel (Nat.le_mul_of_pos_left _ h1)]
        have := hgr.out
        omega
      refine ⟨h1, h2, h3, fun h4 => ?_⟩
      have h5 : G - 1 ≤ 4294967295 := by
        rcases Nat.lt_or_ge 4294967296 G with h6 | h6
        · exfalso
          have h7 : 4294967296 * b1 ≤ (G - 1) * b1 := Nat.mul_le_mul_right _ (by omega)
          have := HHI.out
          omega
        · omega
      have h6 := est_break (g := G - 1) (b0 := b0) (a0 := a0) hV rfl h3 (by omega) h5 hb0
      have h7 := HED.out
      rw [h7] at h2 ⊢
      exact (estN_of (by omega) h5 h6 h2).symm
    have HDN := Lib.hid down
    clear down hV
    by_cases hc : 4294967295 < G
    · have f1 : decide (4294967295 < (G : Int)) = true := by simp; omega
      obtain ⟨h1, h2, h3, h4⟩ := HDN.out (.inl hc)
      have H3 := Lib.hid h3
      have H4 := Lib.hid h4
      clear h3 h4
      go_wp2
      go_quiet (fail)
      by_cases hb : 4294967295 < r + b1
      · have hb' : (4294967295 : Int) < (r : Int) + b1 := by omega
        go_wp2
        go_ret
        exact ⟨retI (by have := H4.out hb; omega), hdr.drewN _⟩
      · have hb' : ¬ (4294967295 : Int) < (r : Int) + b1 := by omega
        go_wp2
        exact ⟨⟨G - 1, r + b1, by go_num, by go_num, by omega, by omega, h2, H3, hdr.drewN _⟩, by simp [intOf]; omega⟩
    · have f1 : decide (4294967295 < (G : Int)) = false := by simp; omega
      obtain ⟨p, hp⟩ : ∃ p, p = G * b0 := ⟨_, rfl⟩
      have hpl : p ≤ 4294967295 * 4294967295 := by rw [hp]; exact Nat.mul_le_mul (by omega) (by omega)
      have hpe : (G : Int) * (b0 : Int) = (p : Int) := by rw [hp]; exact (Int.natCast_mul G b0).symm
      have w1 : IntKind.u64.wrap (p : Int) = (p : Int) := by rw [IntKind.wrap_u64]; omega
      have w2 : IntKind.u64.wrap ((r : Int) * 4294967296) = (r : Int) * 4294967296 := by rw [IntKind.wrap_u64]; omega
      have e1 := or_limbs a0 r ha0 hr
      obtain ⟨t, ht⟩ : ∃ t, t = a0 + 4294967296 * r := ⟨_, rfl⟩
      rw [← ht] at e1
      have htest := est_test (V := b1 * 4294967296 + b0) (a0 := a0) rfl rfl hgr.out
      rw [← hp, show r * 4294967296 + a0 = t by omega] at htest
      have HTT := Lib.hid htest
      have HP := Lib.hid hp
      have HT := Lib.hid ht
      clear htest hp ht
      by_cases hu : t < p
      · have f2 : decide ((t : Int) < (p : Int)) = true := by simp; omega
        obtain ⟨h1, h2, h3, h4⟩ := HDN.out (.inr (HTT.out.1 hu))
        have H3 := Lib.hid h3
        have H4 := Lib.hid h4
        clear h3 h4
        go_wp2
        go_quiet (fail)
        clear w1 w2 e1
        by_cases hb : 4294967295 < r + b1
        · have hb' : (4294967295 : Int) < (r : Int) + b1 := by omega
          go_wp2
          go_ret
          exact ⟨retI (by have := H4.out hb; omega), hdr.drewN _⟩
        · have hb' : ¬ (4294967295 : Int) < (r : Int) + b1 := by omega
          go_wp2
          exact ⟨⟨G - 1, r + b1, by go_num, by go_num, by omega, by omega, h2, H3, hdr.drewN _⟩, by simp [intOf]; omega⟩
      · have f2 : decide ((t : Int) < (p : Int)) = false := by simp; omega
        have hE2 : G = E := by
          have h5 : G * (b1 * 4294967296 + b0) ≤ hi * 4294967296 + a0 := by
            rcases Nat.lt_or_ge (hi * 4294967296 + a0) (G * (b1 * 4294967296 + b0)) with h | h
            · exact absurd (HTT.out.2 h) hu
            · exact h
          have h7 := HED.out
          rw [h7] at hEG ⊢
          exact estN_of (by omega) (by omega) h5 hEG
        have HE2 := Lib.hid hE2
        clear hE2
        go_wp2
        go_quiet (fail)
        clear w1 w2 e1
        go_wp2
        go_ret
        exact ⟨retI (by rw [HE2.out]), hdr.drewN _⟩
end Go.Proofs.YtnlmdjbakcjhbaaDoor
namespace Go.Proofs.YtnlmdjbakcjhbaaDoor
open Go.RowKit
theorem getD_mid (pre xs tl : List Nat) (i k : Nat) (hi : pre.length = i) (h : k < xs.length) : (pre ++ (xs ++ tl)).getD (i + k) 0 = xs.getD k 0 := by
  subst hi
  rw [List.getD_eq_getElem?_getD, List.getElem?_append_right (by omega), Nat.add_sub_cancel_left, List.getElem?_append_left h, ← List.getD_eq_getElem?_getD]
theorem getD_tl (pre xs tl : List Nat) (i n : Nat) (hi : pre.length = i) (h : xs.length = n) : (pre ++ (xs ++ tl)).getD (i + n) 0 = tl.getD 0 0 := by
  subst hi h
  rw [List.getD_eq_getElem?_getD, List.getElem?_append_right (by omega), Nat.add_sub_cancel_left, List.getElem?_append_right (Nat.le_refl _), Nat.sub_self, ← List.getD_eq_getElem?_getD]
theorem set_mid (pre xs tl : List Nat) (i k v : Nat) (hi : pre.length = i) (h : k < xs.length) : (pre ++ (xs ++ tl)).set (i + k) v = pre ++ (xs.set k v ++ tl) := by
  subst hi
  rw [List.set_append_right _ _ (by omega), Nat.add_sub_cancel_left, List.set_append_left _ _ h]
theorem getD_lt {xs : List Nat} (hL : Limbs xs) (k : Nat) : xs.getD k 0 < 4294967296 := by
  rw [List.getD_eq_getElem?_getD]
  rcases Nat.lt_or_ge k xs.length with h | h
  · rw [List.getElem?_eq_getElem h]; exact hL _ (List.getElem_mem _)
  · rw [List.getElem?_eq_none h]; exact Nat.zero_lt_succ _
theorem Row.grown {w w' : World} {g h : Nat} {xs : List Nat} (hR : Row w h xs) (hg : w.grownBy w' (some g)) (hne : h ≠ g) : Row w' h xs :=
  (hg.block h hR.lt (fun e => hne (by cases e; rfl))).trans hR
/-- What subtractMultiple leaves. -/
def SubRes (w : World) (g n k : Nat) (pre xs tl ds : List Nat) (e : Ending) (w' : World) : Prop :=
  ∃ ys cr, e = .returned (.bool (decide (tl.getD 0 0 < cr))) ∧ Row w' g (pre ++ (ys ++ tl)) ∧ Limbs ys ∧ ys.length = n ∧ val xs + cr * 4294967296 ^ n = val ys + k * val ds ∧ w.grownBy w' (some g)
set_option maxHeartbeats 1000000 in
theorem subm_any (g h i n c c' k : Nat) (pre xs tl ds dt : List Nat) (w : World) (hR : Row w g (pre ++ (xs ++ tl))) (hD : Row w h (ds ++ dt)) (hne : h ≠ g) (hi : pre.length = i) (hxn : xs.length = n) (hdn : ds.length = n) (hLx : Limbs xs) (hLd : Limbs ds) (hLt : Limbs tl) (ht : 0 < tl.length) (hn : n ≤ 1000000) (_hil : i ≤ 1000000) (hk : k < 4294967296) :
    Calls Tryd.prog 127 #[.slice (some ⟨g, i, none⟩) (n + 1) c, .slice (some ⟨h, 0, none⟩) n c', .int .u64 (k : Int)] w (SubRes w g n k pre xs tl ds) := by
  have HI := Lib.hid hi
  have HX := Lib.hid hxn
  have HD := Lib.hid hdn
  clear hi hxn hdn
  go_enter Tryd.func127, Tryd.ntmps127
  go_wp2
  go_loopw [8, 14] (fun cr i' wr => ∃ j q : Nat, ∃ ys : List Nat, j ≤ n ∧ i' = .int .i64 j ∧ cr = .int .u64 q ∧ q < 4294967296 ∧ Row wr g (pre ++ (ys ++ tl)) ∧ Limbs ys ∧ Hid (ys.length = n) ∧ Hid (ys.drop j = xs.drop j) ∧ Hid (val (xs.take j) + q * 4294967296 ^ j = val (ys.take j) + k * val (ds.take j)) ∧ w.grownBy wr (some g)) (fun _ i' _ => n - (intOf i').toNat)
  case atStart => exact ⟨0, 0, xs, by omega, rfl, rfl, by omega, hR, hLx, HX.out, rfl, by simp [Hid, val], World.grownBy.refl w _⟩
  case round =>
    obtain ⟨j, q, ys, hj, rfl, rfl, hq, hRy, hLy, hly, hdr, hv, hgb⟩ := hrel
    have hDw := hD.grown hgb hne
    by_cases hjn : j < n
    · obtain ⟨a, ha⟩ : ∃ a, a = ys.getD j 0 := ⟨_, rfl⟩
      obtain ⟨d, hd⟩ : ∃ d, d = ds.getD j 0 := ⟨_, rfl⟩
      have hca := hRy.cell (k := i + j) (by rw [List.length_append, List.length_append, HI.out, hly.out]; omega)
      rw [getD_mid _ _ _ _ _ HI.out (by rw [hly.out]; omega), ← ha] at hca
      have hcd := hDw.cell (k := j) (by rw [List.length_append, HD.out]; omega)
      rw [getD_left _ _ (by rw [HD.out]; omega), ← hd] at hcd
      have hfr := hRy.frozen (i + j)
      have hal : a < 4294967296 := by rw [ha]; exact getD_lt hLy j
      have hdl : d < 4294967296 := by rw [hd]; exact getD_lt hLd j
      have hlim := subm_limb (a := a) hk hdl hq
      obtain ⟨p, hp⟩ : ∃ p, p = k * d := ⟨_, rfl⟩
      rw [← hp] at hlim
      obtain ⟨hl1, hl2⟩ := hlim
      have hkd : (k : Int) * (d : Int) = (p : Int) := by rw [hp]; exact (Int.natCast_mul k d).symm
      have w1 : IntKind.u64.wrap (p : Int) = (p : Int) := by rw [IntKind.wrap_u64]; omega
      have w2 : IntKind.u64.wrap ((q : Int) + p) = ((p + q : Nat) : Int) := by rw [IntKind.wrap_u64]; omega
      have HA := Lib.hid ha
      have HDD := Lib.hid hd
      have HP := Lib.hid hp
      clear ha hd hp
      obtain ⟨t, ht'⟩ : ∃ t, t = p + q := ⟨_, rfl⟩
      rw [← ht'] at w2 hl1 hl2
      have HT := Lib.hid ht'
      clear ht'
      have hxa : a = xs.getD j 0 := by
        have e := congrArg (fun l => List.getD l 0 0) hdr.out
        simp only [getD_drop, Nat.add_zero] at e
        rw [HA.out, e]
      have HXA := Lib.hid hxa
      clear hxa
      have key : ∀ a' c'' : Nat, a' < 4294967296 → a + c'' * 4294967296 = a' + t → Limbs (ys.set j a') ∧ Hid ((ys.set j a').length = n) ∧ Hid ((ys.set j a').drop (j + 1) = xs.drop (j + 1)) ∧
          Hid (val (xs.take (j + 1)) + c'' * 4294967296 ^ (j + 1) = val ((ys.set j a').take (j + 1)) + k * val (ds.take (j + 1))) := by
        intro a' c'' h1 h2
        refine ⟨limbs_set hLy _ h1, by rw [Hid, List.length_set]; exact hly.out, ?_, ?_⟩
        · rw [Hid, List.drop_set_of_lt (Nat.lt_succ_self j)]
          have e := congrArg (List.drop 1) hdr.out
          rwa [List.drop_drop, List.drop_drop] at e
        · rw [Hid, val_take_succ xs, val_take_succ ds, val_set_take ys j _ (by rw [hly.out]; omega), ← HXA.out, ← HDD.out, Nat.pow_succ]
          exact subm_step hv.out (by rw [h2, HT.out, HP.out])
      have hset : ∀ (a' : Nat) (z : Int), z = (a' : Int) → Row (wr.setCell ⟨g, i + j, none⟩ (.int .u32 z)) g (pre ++ (ys.set j a' ++ tl)) := by
        rintro a' z rfl
        have := hRy.set (i + j) a'
        rwa [set_mid _ _ _ _ _ _ HI.out (by rw [hly.out]; omega)] at this
      have hgs : ∀ z : Int, w.grownBy (wr.setCell ⟨g, i + j, none⟩ (.int .u32 z)) (some g) := fun z =>
        ⟨hgb.os, hgb.tape, hgb.output, by simpa [World.setCell] using hgb.size, fun i hi hne => (Below.heap_setCell wr _ _ i (by rintro rfl; exact hne rfl)).trans (hgb.block i hi hne)⟩
      have HK := Lib.hid key
      have HS := Lib.hid hset
      clear key hset
      by_cases hlt : a < t % 4294967296
      · have hlt' : (a : Int) < (t : Int) % 4294967296 := by omega
        rw [if_pos hlt] at hl2
        obtain ⟨k1, k2, k3, k4⟩ := HK.out ((a + 4294967296 - t % 4294967296) % 4294967296) (t / 4294967296 + 1) (by omega) (by omega)
        go_wp2
        exact ⟨⟨j + 1, t / 4294967296 + 1, _, by omega, by go_num, by go_num, by omega, HS.out _ _ (by omega), k1, k2, k3, k4, hgs _⟩, by simp [intOf]; omega⟩
      · have hlt' : ¬ (a : Int) < (t : Int) % 4294967296 := by omega
        rw [if_neg hlt] at hl2
        obtain ⟨k1, k2, k3, k4⟩ := HK.out ((a + 4294967296 - t % 4294967296) % 4294967296) (t / 4294967296) (by omega) (by omega)
        go_wp2
        exact ⟨⟨j + 1, t / 4294967296, _, by omega, by go_num, by go_num, by omega, HS.out _ _ (by omega), k1, k2, k3, k4, hgs _⟩, by simp [intOf]; omega⟩
    · obtain rfl : j = n := by omega
      obtain ⟨t, ht'⟩ : ∃ t, t = tl.getD 0 0 := ⟨_, rfl⟩
      have hct := hRy.cell (k := i + j) (by rw [List.length_append, List.length_append, HI.out, hly.out]; omega)
      rw [getD_tl _ _ _ _ _ HI.out hly.out, ← ht'] at hct
      have htl : t < 4294967296 := by rw [ht']; exact getD_lt hLt 0
      have HT := Lib.hid ht'
      clear ht'
      have hv' := Lib.hid hv.out
      go_wp2
      go_ret
      refine ⟨ys, q, ?_, hRy, hLy, hly.out, ?_, hgb⟩
      · rw [← HT.out]; exact retB (by simp)
      · have h1 := hv.out
        rwa [List.take_of_length_le (by rw [HX.out]; exact Nat.le_refl _), List.take_of_length_le (by rw [hly.out]; exact Nat.le_refl _), List.take_of_length_le (by rw [HD.out]; exact Nat.le_refl _)] at h1
/-- What addBack leaves. -/
def AddRes (w : World) (g n : Nat) (pre xs tl ds : List Nat) (e : Ending) (w' : World) : Prop :=
  ∃ ys cr, e = .returned (.tuple #[]) ∧ Row w' g (pre ++ (ys ++ tl)) ∧ Limbs ys ∧ ys.length = n ∧ val xs + val ds = val ys + cr * 4294967296 ^ n ∧ w.grownBy w' (some g)
set_option maxHeartbeats 1000000 in
theorem addBack_any (g h i n c c' : Nat) (pre xs tl ds dt : List Nat) (w : World) (hR : Row w g (pre ++ (xs ++ tl))) (hD : Row w h (ds ++ dt)) (hne : h ≠ g) (hi : pre.length = i) (hxn : xs.length = n) (hdn : ds.length = n) (hLx : Limbs xs) (hLd : Limbs ds) (hn : n ≤ 1000000) (_hil : i ≤ 1000000) :
    Calls Tryd.prog 128 #[.slice (some ⟨g, i, none⟩) n c, .slice (some ⟨h, 0, none⟩) n c'] w (AddRes w g n pre xs tl ds) := by
  have HI := Lib.hid hi
  have HX := Lib.hid hxn
  have HD := Lib.hid hdn
  clear hi hxn hdn
  go_enter Tryd.func128, Tryd.ntmps128
  go_wp2
  go_loopw [4, 8] (fun cr i' wr => ∃ j q : Nat, ∃ ys : List Nat, j ≤ n ∧ i' = .int .i64 j ∧ cr = .int .u64 q ∧ q ≤ 1 ∧ Row wr g (pre ++ (ys ++ tl)) ∧ Limbs ys ∧ Hid (ys.length = n) ∧ Hid (ys.drop j = xs.drop j) ∧ Hid (val (xs.take j) + val (ds.take j) = val (ys.take j) + q * 4294967296 ^ j) ∧ w.grownBy wr (some g)) (fun _ i' _ => n - (intOf i').toNat)
  case atStart => exact ⟨0, 0, xs, by omega, rfl, rfl, by omega, hR, hLx, HX.out, rfl, by simp [Hid, val], World.grownBy.refl w _⟩
  case round =>
    obtain ⟨j, q, ys, hj, rfl, rfl, hq, hRy, hLy, hly, hdr, hv, hgb⟩ := hrel
    have hDw := hD.grown hgb hne
    by_cases hjn : j < n
    · obtain ⟨a, ha⟩ : ∃ a, a = ys.getD j 0 := ⟨_, rfl⟩
      obtain ⟨d, hd⟩ : ∃ d, d = ds.getD j 0 := ⟨_, rfl⟩
      have hca := hRy.cell (k := i + j) (by rw [List.length_append, List.length_append, HI.out, hly.out]; omega)
      rw [getD_mid _ _ _ _ _ HI.out (by rw [hly.out]; omega), ← ha] at hca
      have hcd := hDw.cell (k := j) (by rw [List.length_append, HD.out]; omega)
      rw [getD_left _ _ (by rw [HD.out]; omega), ← hd] at hcd
      have hfr := hRy.frozen (i + j)
      have hal : a < 4294967296 := by rw [ha]; exact getD_lt hLy j
      have hdl : d < 4294967296 := by rw [hd]; exact getD_lt hLd j
      have HA := Lib.hid ha
      have HDD := Lib.hid hd
      clear ha hd
      have hxa : a = xs.getD j 0 := by
        have e := congrArg (fun l => List.getD l 0 0) hdr.out
        simp only [getD_drop, Nat.add_zero] at e
        rw [HA.out, e]
      have HXA := Lib.hid hxa
      clear hxa
      obtain ⟨t, ht⟩ : ∃ t, t = a + q + d := ⟨_, rfl⟩
      have hset : ∀ (m : Nat) (z : Int), z = ((t % 4294967296 : Nat) : Int) → Row ((wr.drewN m).setCell ⟨g, i + j, none⟩ (.int .u32 z)) g (pre ++ (ys.set j (t % 4294967296) ++ tl)) := by
        rintro m z rfl
        have := (hRy.drewN m).set (i + j) (t % 4294967296)
        rwa [set_mid _ _ _ _ _ _ HI.out (by rw [hly.out]; omega)] at this
      have hgs : ∀ (m : Nat) (z : Int), w.grownBy ((wr.drewN m).setCell ⟨g, i + j, none⟩ (.int .u32 z)) (some g) := fun m z =>
        ⟨hgb.os, hgb.tape, hgb.output, by simpa [World.setCell] using hgb.size, fun i hi hne => (Below.heap_setCell (wr.drewN m) _ _ i (by rintro rfl; exact hne rfl)).trans (hgb.block i hi hne)⟩
      have HS := Lib.hid hset
      have w1 : IntKind.u64.wrap ((a : Int) + d) = (a : Int) + d := by rw [IntKind.wrap_u64]; omega
      have w2 : IntKind.u64.wrap ((q : Int) + ((a : Int) + d)) = (t : Int) := by rw [IntKind.wrap_u64]; omega
      have htl : t < 8589934592 := by omega
      have HT := Lib.hid ht
      clear hset ht
      go_wp2
      go_quiet (fail)
      clear w1 w2
      go_wp2
      refine ⟨⟨j + 1, t / 4294967296, ys.set j (t % 4294967296), by omega, by go_num, by go_num, by omega, HS.out _ _ (by omega), limbs_set hLy _ (by omega), by rw [Hid, List.length_set]; exact hly.out, ?_, ?_, hgs _ _⟩, by simp [intOf]; omega⟩
      · rw [Hid, List.drop_set_of_lt (Nat.lt_succ_self j)]
        have e := congrArg (List.drop 1) hdr.out
        rwa [List.drop_drop, List.drop_drop] at e
      · rw [Hid, val_take_succ xs, val_take_succ ds, val_set_take ys j _ (by rw [hly.out]; omega), ← HXA.out, ← HDD.out, Nat.pow_succ]
        exact sum_step hv.out HT.out
    · obtain rfl : j = n := by omega
      go_wp2
      refine bodyPost_ret (v := .tuple #[]) (by simp [results, Tryd.results128, go_sem]) rfl ?_
      refine ⟨ys, q, rfl, hRy, hLy, hly.out, ?_, hgb⟩
      have h1 := hv.out
      rwa [List.take_of_length_le (by rw [HX.out]; exact Nat.le_refl _), List.take_of_length_le (by rw [HD.out]; exact Nat.le_refl _), List.take_of_length_le (by rw [hly.out]; exact Nat.le_refl _)] at h1
end Go.Proofs.YtnlmdjbakcjhbaaDoor
