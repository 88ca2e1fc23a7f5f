/- Contracts of torsionref01.Made. Contracts of torsionref01.Of, Neg, Abs, Valid and of made. A rule for a region whose operations come in any order that its edges allow: one proof for each operation, by what holds once a set of operations is done. Conditions: as the theorem states. Words for statements that assign several integers at once: values that are integers, structs of the call's own that hold them. A rule for a region in one order: operations that may be taken first, single operations that alone may come up, and pairs that may come up in either order. Conditions: as the theorem states. -/
import Derived.Test.YtgpnpgfpcmiecaaDoorVG0Words
import Derived.Test.YtgpnpgfpcmiecaaDoorVG1Of
import Derived.RegionTactic
import Derived.Deep.RegionHeld3
namespace Go.Proofs.YtgpnpgfpcmiecaaDoor
open Go.RowKit
theorem limbs_nil : Limbs [] := fun x hx => by simp at hx
theorem Slot2.grown {w w1 : World} {g : Nat} {a0 a1 : Value} (h : Slot2 w g a0 a1) {row : Option Nat} (hg : w.grownBy w1 row) (hne : some g ≠ row) : Slot2 w1 g a0 a1 := by
  have e := hg.block g h.2.2.2.2 hne
  exact ⟨(World.cell?_of_block (w := w) (a := ⟨g, 0, none⟩) e).trans h.1, (World.cell?_of_block (w := w) (a := ⟨g, 1, none⟩) e).trans h.2.1,
    (World.frozen?_of_block (w := w) (a := ⟨g, 0, none⟩) e).trans h.2.2.1, (World.frozen?_of_block (w := w) (a := ⟨g, 1, none⟩) e).trans h.2.2.2.1, Nat.lt_of_lt_of_le h.2.2.2.2 hg.size⟩
set_option maxHeartbeats 1000000 in
theorem Made_false (A : Option Addr) (n c B : Nat) (xs : List Nat) (w : World) (ha : Lim w B A n c xs) (hB : B ≤ w.heap.size) (hn : n ≤ 1000000) :
    Calls Tryd.prog 28 #[.slice A n c, .bool false] w (RetInt w (zOf false (val xs))) := by
  have hcap := ha.cap
  have hnc : n ≤ c := by omega
  have hcm : c ≤ 9223372036854775807 := by omega
  clear hcap
  have HL := Lib.hid ha.len
  have hLx : Limbs xs := ha.lt
  have S0 := Slot2.new w (.bool false) (.slice none 0 0) 28
  have E0 := Own.empty (w.alloc (.cells #[.bool false, .slice none 0 0] 28)) (w.heap.size + 1) (by simp)
  rw [World.size_alloc] at E0
  go_enter Tryd.func28, Tryd.ntmps28
  go_wp2
  go_loop [5] (fun i => ∃ k : Nat, k ≤ n ∧ i = .int .i64 k ∧ Hid (∀ j : Nat, k ≤ j → j < n → xs.getD j 0 = 0)) (fun i => (intOf i).toNat)
  case atStart => exact ⟨n, by omega, rfl, fun j h1 h2 => absurd h1 (by omega)⟩
  case round =>
    obtain ⟨k, hkn, rfl, hz⟩ := hrel
    rcases Nat.eq_zero_or_pos k with h0 | h0
    · subst h0
      have HV := Lib.hid (digs_take hLx 0 (by omega) (fun j h1 h2 => hz.out j h1 (by rw [HL.out] at h2; exact h2)) (fun h => absurd h (by omega)))
      have hv0 : val xs = 0 := by have := HV.out; rwa [List.take_zero, digs_ne] at this
      have HV0 := Lib.hid hv0
      clear hv0
      have HT := (((ha.take (0) (by omega)).more hB).alloc (Nat.le_refl _) (.cells #[.bool false, .slice none 0 0] 28)).alloc (by simp) (.cells #[] 26)
      go_wp2_with (at_builtin; refine wpList_append_lim _ rfl (.tmp 25) (.tmp 28) rfl (w.heap.size + 1) (.slice (some ⟨w.heap.size + 1, 0, none⟩) 0 0) 0 [] rfl ?h1 ?h2 w.heap.size A (0) c (xs.take (0)) rfl ?h3 ?h4 ?h5 ?h6)
      all_goals (first | exact E0 | exact HT | exact limbs_nil | omega | simp | skip)
      case h6 =>
        intro A' c' w1 hl ho hg
        have B1 : Below w.heap.size w w1 := (((Below.refl w.heap.size w).alloc (Nat.le_refl _) _).alloc (by simp) _).grown hg (by simp; omega) (fun j hj => by simp [Value.ownBlock] at hj; omega)
        obtain ⟨k0, k1, f0, f1, _⟩ := (Slot2.grown (S0.alloc (.cells #[] 26)) hg (by simp [Value.ownBlock]))
        go_wp2
        refine bodyPost_ret (v := .agg #[.bool false, .slice A' (0 + (0)) c']) (by simp [results, Tryd.results28, go_sem, k0, k1]) rfl ⟨_, A', _, c', rfl, ?_, (B1.setCell (by simp) _).setCell (by simp) _⟩
        refine IsInt.stored ⟨?_, ?_⟩ k0 k1 rfl rfl _ _
        · rw [zOf_neg, HV0.out]; rfl
        · rw [zOf_natAbs, HV.out]; exact hl
    · obtain ⟨k, rfl⟩ : ∃ j, k = j + 1 := ⟨k - 1, by omega⟩
      obtain ⟨ad, rfl, _, x, hx, hxl, hcx⟩ := ((ha.more hB).alloc (Nat.le_refl _) (.cells #[.bool false, .slice none 0 0] 28)).at_ (show k < n by omega)
      by_cases h1 : x = 0
      · subst h1
        go_wp2
        refine ⟨⟨k, by omega, rfl, fun j h1 h2 => ?_⟩, by simp [intOf] <;> omega⟩
        rcases Nat.eq_or_lt_of_le h1 with e | e
        · subst e; exact hx.out.symm
        · exact hz.out j (by omega) h2
      · have hb1 : ((x : Int) == 0) = false := by simp; omega
        have HV := Lib.hid (digs_take hLx (k + 1) (by rw [HL.out]; omega) (fun j h1 h2 => hz.out j h1 (by rw [HL.out] at h2; exact h2)) (fun _ => by rw [Nat.add_sub_cancel, ← hx.out]; exact h1))
        have hv0 : 0 < val xs := by
          rcases Nat.eq_zero_or_pos (val xs) with e | e
          · have h2 := HV.out
            have h3 : (xs.take (k + 1)).length = k + 1 := by rw [List.length_take, HL.out]; omega
            rw [← h2, e, digs_zero] at h3
            simp at h3
          · exact e
        have HV0 := Lib.hid hv0
        clear hv0 h1
        have HT := (((ha.take (k + 1) (by omega)).more hB).alloc (Nat.le_refl _) (.cells #[.bool false, .slice none 0 0] 28)).alloc (by simp) (.cells #[] 26)
        go_wp2_with (at_builtin; refine wpList_append_lim _ rfl (.tmp 25) (.tmp 28) rfl (w.heap.size + 1) (.slice (some ⟨w.heap.size + 1, 0, none⟩) 0 0) 0 [] rfl ?g1 ?g2 w.heap.size (some ad) (k + 1) c (xs.take (k + 1)) rfl ?g3 ?g4 ?g5 ?g6)
        all_goals (first | exact E0 | exact HT | exact limbs_nil | omega | simp | skip)
        case g6 =>
          intro A' c' w1 hl ho hg
          have B1 : Below w.heap.size w w1 := (((Below.refl w.heap.size w).alloc (Nat.le_refl _) _).alloc (by simp) _).grown hg (by simp; omega) (fun j hj => by simp [Value.ownBlock] at hj; omega)
          obtain ⟨k0, k1, f0, f1, _⟩ := (Slot2.grown (S0.alloc (.cells #[] 26)) hg (by simp [Value.ownBlock]))
          go_wp2
          refine bodyPost_ret (v := .agg #[.bool false, .slice A' (k + 1) c']) (by simp [results, Tryd.results28, go_sem, k0, k1]) rfl ⟨_, A', _, c', rfl, ?_, (B1.setCell (by simp) _).setCell (by simp) _⟩
          refine IsInt.stored ⟨?_, ?_⟩ k0 k1 rfl rfl _ _
          · rw [zOf_neg, decide_eq_true HV0.out]; rfl
          · rw [zOf_natAbs, HV.out]; exact hl
set_option maxHeartbeats 1000000 in
theorem Made_true (A : Option Addr) (n c B : Nat) (xs : List Nat) (w : World) (ha : Lim w B A n c xs) (hB : B ≤ w.heap.size) (hn : n ≤ 1000000) :
    Calls Tryd.prog 28 #[.slice A n c, .bool true] w (RetInt w (zOf true (val xs))) := by
  have hcap := ha.cap
  have hnc : n ≤ c := by omega
  have hcm : c ≤ 9223372036854775807 := by omega
  clear hcap
  have HL := Lib.hid ha.len
  have hLx : Limbs xs := ha.lt
  have S0 := Slot2.new w (.bool false) (.slice none 0 0) 28
  have E0 := Own.empty (w.alloc (.cells #[.bool false, .slice none 0 0] 28)) (w.heap.size + 1) (by simp)
  rw [World.size_alloc] at E0
  go_enter Tryd.func28, Tryd.ntmps28
  go_wp2
  go_loop [5] (fun i => ∃ k : Nat, k ≤ n ∧ i = .int .i64 k ∧ Hid (∀ j : Nat, k ≤ j → j < n → xs.getD j 0 = 0)) (fun i => (intOf i).toNat)
  case atStart => exact ⟨n, by omega, rfl, fun j h1 h2 => absurd h1 (by omega)⟩
  case round =>
    obtain ⟨k, hkn, rfl, hz⟩ := hrel
    rcases Nat.eq_zero_or_pos k with h0 | h0
    · subst h0
      have HV := Lib.hid (digs_take hLx 0 (by omega) (fun j h1 h2 => hz.out j h1 (by rw [HL.out] at h2; exact h2)) (fun h => absurd h (by omega)))
      have hv0 : val xs = 0 := by have := HV.out; rwa [List.take_zero, digs_ne] at this
      have HV0 := Lib.hid hv0
      clear hv0
      have HT := (((ha.take (0) (by omega)).more hB).alloc (Nat.le_refl _) (.cells #[.bool false, .slice none 0 0] 28)).alloc (by simp) (.cells #[] 26)
      go_wp2_with (at_builtin; refine wpList_append_lim _ rfl (.tmp 25) (.tmp 28) rfl (w.heap.size + 1) (.slice (some ⟨w.heap.size + 1, 0, none⟩) 0 0) 0 [] rfl ?h1 ?h2 w.heap.size A (0) c (xs.take (0)) rfl ?h3 ?h4 ?h5 ?h6)
      all_goals (first | exact E0 | exact HT | exact limbs_nil | omega | simp | skip)
      case h6 =>
        intro A' c' w1 hl ho hg
        have B1 : Below w.heap.size w w1 := (((Below.refl w.heap.size w).alloc (Nat.le_refl _) _).alloc (by simp) _).grown hg (by simp; omega) (fun j hj => by simp [Value.ownBlock] at hj; omega)
        obtain ⟨k0, k1, f0, f1, _⟩ := (Slot2.grown (S0.alloc (.cells #[] 26)) hg (by simp [Value.ownBlock]))
        go_wp2
        refine bodyPost_ret (v := .agg #[.bool false, .slice A' (0 + (0)) c']) (by simp [results, Tryd.results28, go_sem, k0, k1]) rfl ⟨_, A', _, c', rfl, ?_, (B1.setCell (by simp) _).setCell (by simp) _⟩
        refine IsInt.stored ⟨?_, ?_⟩ k0 k1 rfl rfl _ _
        · rw [zOf_neg, HV0.out]; rfl
        · rw [zOf_natAbs, HV.out]; exact hl
    · obtain ⟨k, rfl⟩ : ∃ j, k = j + 1 := ⟨k - 1, by omega⟩
      obtain ⟨ad, rfl, _, x, hx, hxl, hcx⟩ := ((ha.more hB).alloc (Nat.le_refl _) (.cells #[.bool false, .slice none 0 0] 28)).at_ (show k < n by omega)
      by_cases h1 : x = 0
      · subst h1
        go_wp2
        refine ⟨⟨k, by omega, rfl, fun j h1 h2 => ?_⟩, by simp [intOf] <;> omega⟩
        rcases Nat.eq_or_lt_of_le h1 with e | e
        · subst e; exact hx.out.symm
        · exact hz.out j (by omega) h2
      · have hb1 : ((x : Int) == 0) = false := by simp; omega
        have HV := Lib.hid (digs_take hLx (k + 1) (by rw [HL.out]; omega) (fun j h1 h2 => hz.out j h1 (by rw [HL.out] at h2; exact h2)) (fun _ => by rw [Nat.add_sub_cancel, ← hx.out]; exact h1))
        have hv0 : 0 < val xs := by
          rcases Nat.eq_zero_or_pos (val xs) with e | e
          · have h2 := HV.out
            have h3 : (xs.take (k + 1)).length = k + 1 := by rw [List.length_take, HL.out]; omega
            rw [← h2, e, digs_zero] at h3
            simp at h3
          · exact e
        have HV0 := Lib.hid hv0
        clear hv0 h1
        have HT := (((ha.take (k + 1) (by omega)).more hB).alloc (Nat.le_refl _) (.cells #[.bool false, .slice none 0 0] 28)).alloc (by simp) (.cells #[] 26)
        go_wp2_with (at_builtin; refine wpList_append_lim _ rfl (.tmp 25) (.tmp 28) rfl (w.heap.size + 1) (.slice (some ⟨w.heap.size + 1, 0, none⟩) 0 0) 0 [] rfl ?g1 ?g2 w.heap.size (some ad) (k + 1) c (xs.take (k + 1)) rfl ?g3 ?g4 ?g5 ?g6)
        all_goals (first | exact E0 | exact HT | exact limbs_nil | omega | simp | skip)
        case g6 =>
          intro A' c' w1 hl ho hg
          have B1 : Below w.heap.size w w1 := (((Below.refl w.heap.size w).alloc (Nat.le_refl _) _).alloc (by simp) _).grown hg (by simp; omega) (fun j hj => by simp [Value.ownBlock] at hj; omega)
          obtain ⟨k0, k1, f0, f1, _⟩ := (Slot2.grown (S0.alloc (.cells #[] 26)) hg (by simp [Value.ownBlock]))
          go_wp2
          refine bodyPost_ret (v := .agg #[.bool true, .slice A' (k + 1) c']) (by simp [results, Tryd.results28, go_sem, k0, k1]) rfl ⟨_, A', _, c', rfl, ?_, (B1.setCell (by simp) _).setCell (by simp) _⟩
          refine IsInt.stored ⟨?_, ?_⟩ k0 k1 rfl rfl _ _
          · rw [zOf_neg, decide_eq_true HV0.out]; rfl
          · rw [zOf_natAbs, HV.out]; exact hl
theorem Made_any (neg : Bool) (A : Option Addr) (n c B : Nat) (xs : List Nat) (w : World) (ha : Lim w B A n c xs) (hB : B ≤ w.heap.size) (hn : n ≤ 1000000) :
    Calls Tryd.prog 28 #[.slice A n c, .bool neg] w (RetInt w (zOf neg (val xs))) := by
  cases neg
  · exact Made_false A n c B xs w ha hB hn
  · exact Made_true A n c B xs w ha hB hn
end Go.Proofs.YtgpnpgfpcmiecaaDoor
namespace Go.Proofs.YtgpnpgfpcmiecaaDoor
open Go.RowKit
set_option maxHeartbeats 400000 in
theorem rneg_any (neg : Bool) (A : Option Addr) (n c : Nat) (z : Int) (w : World) (ha : IsInt w neg A n c z) (hn : n ≤ 1000000) :
    Calls Tryd.prog 65 #[.agg #[.bool neg, .slice A n c]] w (RetInt w (-z)) := by
  have H2 := fun W (hW : Below w.heap.size w W) => Made_any (!neg) A n c w.heap.size (digs z.natAbs) W (ha.lim.below hW) hW.size hn
  have e1 : zOf (!neg) (val (digs z.natAbs)) = -z := by rw [val_digs, ha.sign]; exact zOf_not z
  simp only [e1] at H2
  have H2' := Lib.hid H2
  clear H2 e1
  obtain ⟨HB, P0, R0⟩ := frame11 w (.bool neg) (.slice A n c)
  go_enter Tryd.func65, Tryd.ntmps65
  go_wp2_with fail
  refine (H2'.out _ HB).mono ?_
  rintro e w2 ⟨neg2, A2, n2, c2, rfl, hi2, hb2⟩
  obtain ⟨k0, k1, f0, f1, _⟩ := R0.after hb2
  go_wp2
  exact bodyPost_ret (v := .agg #[.bool neg2, .slice A2 n2 c2]) (by simp [results, Tryd.results65, go_sem, k0, k1]) rfl
    (RetInt.stored hi2 HB hb2 (by omega) k0 k1 rfl rfl)
set_option maxHeartbeats 400000 in
theorem rabs_any (neg : Bool) (A : Option Addr) (n c : Nat) (z : Int) (w : World) (ha : IsInt w neg A n c z) (hn : n ≤ 1000000) :
    Calls Tryd.prog 41 #[.agg #[.bool neg, .slice A n c]] w (RetInt w (z.natAbs : Int)) := by
  have H2 := fun W (hW : Below w.heap.size w W) => Made_any false A n c w.heap.size (digs z.natAbs) W (ha.lim.below hW) hW.size hn
  have e1 : zOf false (val (digs z.natAbs)) = (z.natAbs : Int) := by rw [val_digs]; rfl
  simp only [e1] at H2
  have H2' := Lib.hid H2
  clear H2 e1
  obtain ⟨HB, P0, R0⟩ := frame11 w (.bool neg) (.slice A n c)
  go_enter Tryd.func41, Tryd.ntmps41
  go_wp2_with fail
  refine (H2'.out _ HB).mono ?_
  rintro e w2 ⟨neg2, A2, n2, c2, rfl, hi2, hb2⟩
  obtain ⟨k0, k1, f0, f1, _⟩ := R0.after hb2
  go_wp2
  exact bodyPost_ret (v := .agg #[.bool neg2, .slice A2 n2 c2]) (by simp [results, Tryd.results41, go_sem, k0, k1]) rfl
    (RetInt.stored hi2 HB hb2 (by omega) k0 k1 rfl rfl)

theorem val_two (x : Nat) : val [x % 4294967296, x / 4294967296] = x := by
  simp only [val]; omega
set_option maxHeartbeats 400000 in
theorem rof_any (n : Int) (w : World) (h1 : -9223372036854775808 ≤ n) (h2 : n ≤ 9223372036854775807) :
    Calls Tryd.prog 42 #[.int .i64 n] w (RetInt w n) := by
  have R0 := Slot2.new w (.bool false) (.slice none 0 0) 28
  have HB := (Below.refl w.heap.size w).alloc (Nat.le_refl _) (.cells #[.bool false, .slice none 0 0] 28)
  have H : ∀ (neg : Bool) (x : Nat) (o : Array Value), x < 18446744073709551616 → zOf neg x = n → o = (ints [x % 4294967296, x / 4294967296]).toArray → Calls Tryd.prog 28 #[.slice (some ⟨w.heap.size + 1, 0, none⟩) 2 2, .bool neg]
      ((w.alloc (.cells #[.bool false, .slice none 0 0] 28)).alloc (.cells o 26)) (RetInt ((w.alloc (.cells #[.bool false, .slice none 0 0] 28)).alloc (.cells o 26)) n) := by
    intro neg x o hx hz ho
    have hr := row_new (w.alloc (.cells #[.bool false, .slice none 0 0] 28)) [x % 4294967296, x / 4294967296] o ho
    rw [World.size_alloc] at hr
    have := Made_any neg (some ⟨w.heap.size + 1, 0, none⟩) 2 2 _ [x % 4294967296, x / 4294967296] _ (hr.len_lim (fun z hz => by simp at hz; omega) 2 rfl (by omega)) (Nat.le_refl _) (by omega)
    rw [val_two x, hz] at this
    exact this
  have H' := Lib.hid H
  clear H
  by_cases h0 : n < 0
  · have HW := Lib.hid (wrap_neg_wrap n h1 h0)
    go_enter Tryd.func42, Tryd.ntmps42
    go_wp2_with fail
    rw [HW.out]
    refine (H'.out true n.natAbs _ (by omega) ?_ ?_).mono ?_
    · unfold zOf; simp; try omega
    · simp [ints]; try omega
    rintro e w2 ⟨neg2, A2, n2, c2, rfl, hi2, hb2⟩
    obtain ⟨k0, k1, f0, f1, _⟩ := (R0.alloc _).after hb2
    go_wp2
    exact bodyPost_ret (v := .agg #[.bool neg2, .slice A2 n2 c2]) (by simp [results, Tryd.results42, go_sem, k0, k1]) rfl
      (RetInt.stored hi2 (HB.alloc (by simp) _) hb2 (by omega) k0 k1 rfl rfl)
  · obtain ⟨n, rfl⟩ := Int.eq_ofNat_of_zero_le (show 0 ≤ n by omega)
    go_enter Tryd.func42, Tryd.ntmps42
    go_wp2_with fail
    refine (H'.out false n _ (by omega) ?_ ?_).mono ?_
    · unfold zOf; simp; try omega
    · simp [ints]; try omega
    rintro e w2 ⟨neg2, A2, n2, c2, rfl, hi2, hb2⟩
    obtain ⟨k0, k1, f0, f1, _⟩ := (R0.alloc _).after hb2
    go_wp2
    exact bodyPost_ret (v := .agg #[.bool neg2, .slice A2 n2 c2]) (by simp [results, Tryd.results42, go_sem, k0, k1]) rfl
      (RetInt.stored hi2 (HB.alloc (by simp) _) hb2 (by omega) k0 k1 rfl rfl)
end Go.Proofs.YtgpnpgfpcmiecaaDoor
namespace Go.Proofs.YtgpnpgfpcmiecaaDoor
open Go.RowKit
theorem cnt_le (n : Nat) (f g : Nat → Bool) (h : ∀ j, g j = true → f j = true) : (List.range n).countP g ≤ (List.range n).countP f :=
  List.countP_mono_left fun x _ hx => h x hx
theorem cnt_lt (n i : Nat) (f g : Nat → Bool) (hi : i < n) (h : ∀ j, g j = true → f j = true) (hf : f i = true) (hg : g i = false) : (List.range n).countP g < (List.range n).countP f := by
  induction n with
  | zero => omega
  | succ n ih =>
    rw [List.range_succ, List.countP_append, List.countP_append]
    by_cases e : i = n
    · subst e
      have := cnt_le i f g h
      simp [hf, hg]; omega
    · have := ih (by omega)
      have h2 : List.countP g [n] ≤ List.countP f [n] := List.countP_mono_left fun x _ hx => h x hx
      omega
/-- All of an operation's edges have been met. -/
def Met_ (done : Nat → Bool) (o : Oper) : Prop := ∀ e ∈ o.after, Region.binds .any e = true → done e.on = true
/-- What one operation has to do. -/
def StepEv (P : Program) (ops : Array Oper) (Q : Exit → Act → World → Prop) (J : (Nat → Bool) → Act → World → Prop) (i : Nat) (o : Oper) : Prop :=
  ∀ (done : Nat → Bool) (a : Act) (w : World), done i = false → Met_ done o → J done a w → ∀ K : Act → World → Prop, Shut (∀ a' w', J (fun j => done j || j == i) a' w' → K a' w') →
    if Region.wanted o (yielded ops a.tmps) = true then Oper.wp P o a w K Q else K (a.put o.dst undef) w
/-- Every edge goes back. -/
def forwardB (ops : Array Oper) : Bool := (List.range ops.size).all fun i => match ops[i]? with
  | some o => o.after.all fun e => !Region.binds .any e || decide (e.on < i)
  | none => true
theorem forward_spec {ops : Array Oper} (h : forwardB ops = true) {i : Nat} {o : Oper} (ho : ops[i]? = some o) {e : Edge} (he : e ∈ o.after) (hb : Region.binds .any e = true) : e.on < i := by
  have hlt : i < ops.size := (Array.getElem?_eq_some_iff.1 ho).1
  simp only [forwardB, List.all_eq_true, List.mem_range] at h
  have h1 := h i hlt
  rw [ho] at h1
  have h2 := (Array.all_eq_true_iff_forall_mem.1 h1) e he
  simpa [hb] using h2
theorem all_of_none {ops : Array Oper} (h : forwardB ops = true) {listed : Array Bool} (hs : listed.size = ops.size) (hr : Region.ready .any ops listed = []) : ∀ i, i < ops.size → listed.getD i false = true := by
  intro i
  induction i using Nat.strongRecOn with
  | ind i ih =>
    intro hi
    cases hl : listed.getD i false with
    | true => rfl
    | false =>
      exfalso
      have hmem : i ∈ Region.ready .any ops listed := by
        rw [mem_ready]
        refine ⟨?_, ops[i], Array.getElem?_eq_getElem hi, fun e he hb => ?_⟩
        · have h2 : i < listed.size := by omega
          simp [h2] at hl ⊢
          exact hl
        · exact ih e.on (forward_spec h (Array.getElem?_eq_getElem hi) he hb) (by have := forward_spec h (Array.getElem?_eq_getElem hi) he hb; omega)
      rw [hr] at hmem
      cases hmem
theorem wpAny_ev {P : Program} {ops : Array Oper} {Q : Exit → Act → World → Prop} (h : forwardB ops = true) (J : (Nat → Bool) → Act → World → Prop)
    (hJ : ∀ d d' : Nat → Bool, (∀ i, d i = d' i) → ∀ a w, J d a w → J d' a w)
    (step : ∀ i o, ops[i]? = some o → StepEv P ops Q J i o) (fin : ∀ done a w, (∀ i, i < ops.size → done i = true) → J done a w → Q .normal a w) :
    ∀ fuel (listed : Array Bool) a w, listed.size = ops.size → (List.range ops.size).countP (fun j => !listed.getD j false) ≤ fuel → J (fun j => listed.getD j false) a w → wpAny P .any ops Q fuel listed a w := by
  intro fuel
  induction fuel with
  | zero =>
    intro listed a w hs hc hj
    have hall : ∀ i, i < ops.size → listed.getD i false = true := by
      intro i hi
      have h0 := List.countP_eq_zero.1 (Nat.le_zero.1 hc) i (List.mem_range.2 hi)
      simpa using h0
    refine ⟨?_, fin _ a w hall hj⟩
    rcases hr : Region.ready .any ops listed with _ | ⟨i, l⟩
    · rfl
    · have hmem : i ∈ Region.ready .any ops listed := by rw [hr]; exact List.mem_cons_self
      rw [mem_ready] at hmem
      obtain ⟨h1, o, ho, _⟩ := hmem
      have hi : i < ops.size := (Array.getElem?_eq_some_iff.1 ho).1
      have h2 := hall i hi
      have h3 : i < listed.size := by omega
      simp [h3] at h1 h2
      rw [h1] at h2
      cases h2
  | succ fuel ih =>
    intro listed a w hs hc hj
    refine ⟨fun hr => fin _ a w (all_of_none h hs hr) hj, fun i hmem => ?_⟩
    rw [mem_ready] at hmem
    obtain ⟨h1, o, ho, hall⟩ := hmem
    have hi : i < ops.size := (Array.getElem?_eq_some_iff.1 ho).1
    have h3 : i < listed.size := by omega
    have h0 : listed.getD i false = false := by simp [h3] at h1 ⊢; exact h1
    refine wpOp_step ho fun K hK => ?_
    refine step i o ho (fun j => listed.getD j false) a w h0 hall hj K fun a' w' hj' => hK a' w' ?_
    refine ih (listed.setIfInBounds i true) a' w' (by simpa using hs) ?_ (hJ _ _ (fun j => ?_) a' w' hj')
    · have := cnt_lt ops.size i (fun j => !listed.getD j false) (fun j => !(listed.setIfInBounds i true).getD j false) hi (fun j hj => ?_) (by simp only [h0]; rfl) (by simp [h3])
      · omega
      · by_cases e : i = j
        · subst e; simp [h3] at hj
        · rwa [_root_.Go.getD_set_ne false e] at hj
    · by_cases e : i = j
      · subst e; simp [h3]
      · rw [_root_.Go.getD_set_ne false e]
        have : (j == i) = false := by simp; omega
        simp [this]
/-- One proof for each of a list's operations. -/
def StepsEv (P : Program) (ops : Array Oper) (Q : Exit → Act → World → Prop) (J : (Nat → Bool) → Act → World → Prop) : Nat → List Oper → Prop
  | _, [] => True
  | k, o :: l => StepEv P ops Q J k o ∧ StepsEv P ops Q J (k + 1) l
theorem steps_get {P : Program} {ops : Array Oper} {Q : Exit → Act → World → Prop} {J : (Nat → Bool) → Act → World → Prop} : ∀ (l : List Oper) (k i : Nat) (o : Oper), StepsEv P ops Q J k l → l[i]? = some o → StepEv P ops Q J (k + i) o
  | [], _, _, _, _, h => by simp at h
  | x :: l, k, 0, o, hs, h => by
    simp at h; subst h; exact hs.1
  | x :: l, k, i + 1, o, hs, h => by
    have := steps_get l (k + 1) i o hs.2 (by simpa using h)
    rwa [show k + 1 + i = k + (i + 1) by omega] at this
/-- THE RULE: what holds once a set of operations is done (J: of the frame at the region's head, the frame and the world). -/
theorem wp_region_ev {P : Program} {ops : List Oper} {id : Nat} {Q : Exit → Act → World → Prop} {a : Act} {w : World} (J : (Nat → Bool) → Act → Act → World → Prop) (hm : P.follows .mixedOrders = true) (h : forwardB ops.toArray = true)
    (hJ : ∀ d d' : Nat → Bool, (∀ i, d i = d' i) → ∀ a' w', J d a a' w' → J d' a a' w')
    (init : J (fun _ => false) a a w.drew) (steps : StepsEv P ops.toArray Q (fun d => J d a) 0 ops) (fin : ∀ done a' w', (∀ i, i < ops.length → done i = true) → J done a a' w' → Q .normal a' w') : (Code.region id ops.toArray true).wp P Q a w := by
  refine wp_region_any hm ?_
  refine wpAny_ev h (fun d => J d a) hJ (fun i o ho => ?_) (fun done a' w' hall hj => fin done a' w' (by simpa using hall) hj) _ _ _ _ (by simp) ?_ (hJ _ _ (fun i => ?_) _ _ init)
  · have := steps_get (P := P) (ops := ops.toArray) (Q := Q) ops 0 i o steps (by simpa using ho)
    rwa [Nat.zero_add] at this
  · refine Nat.le_trans List.countP_le_length (by simp)
  · by_cases e : i < ops.length <;> simp [e]
end Go.Proofs.YtgpnpgfpcmiecaaDoor
namespace Go.Proofs.YtgpnpgfpcmiecaaDoor
open Go.RowKit
/-- The struct at block g holds the valid integer z. -/
def IntAt (w : World) (g : Nat) (z : Int) : Prop := ∃ neg A n c, Slot2 w g (.bool neg) (.slice A n c) ∧ IsInt w neg A n c z
theorem IntAt.after {w w' : World} {g : Nat} {z : Int} (h : IntAt w g z) (hb : Below w.heap.size w w') : IntAt w' g z := by
  obtain ⟨neg, A, n, c, h1, h2⟩ := h
  exact ⟨neg, A, n, c, h1.after hb, h2.below hb⟩
theorem IntAt.new {w : World} {neg : Bool} {A : Option Addr} {n c : Nat} {z : Int} (h : IsInt w neg A n c z) : IntAt (w.alloc (.cells #[.bool neg, .slice A n c] 28)) w.heap.size z :=
  ⟨neg, A, n, c, Slot2.new w _ _ _, h.below ((Below.refl _ _).alloc (Nat.le_refl _) _)⟩
def Bag (w : World) (l : List (Nat × Int)) : Prop := ∀ p ∈ l, IntAt w p.1 p.2
theorem Bag.after {w w' : World} {l : List (Nat × Int)} (h : Bag w l) (hb : Below w.heap.size w w') : Bag w' l := fun p hp => (h p hp).after hb
theorem Bag.cons {w : World} {g : Nat} {z : Int} {l : List (Nat × Int)} (h : IntAt w g z) (hl : Bag w l) : Bag w ((g, z) :: l) := by
  intro p hp
  rcases List.mem_cons.1 hp with rfl | hp
  · exact h
  · exact hl p hp
theorem bag_nil (w : World) : Bag w [] := fun p hp => by cases hp
theorem Bag.new {w : World} {neg : Bool} {A : Option Addr} {n c : Nat} {z : Int} {l : List (Nat × Int)} (hl : Bag w l) (h : IsInt w neg A n c z) : Bag (w.alloc (.cells #[.bool neg, .slice A n c] 28)) ((w.heap.size, z) :: l) :=
  Bag.cons (IntAt.new h) (hl.after ((Below.refl _ _).alloc (Nat.le_refl _) _))
/-- The value v is the valid integer z. -/
def IntV (w : World) (v : Value) (z : Int) : Prop := ∃ neg A n c, v = .agg #[.bool neg, .slice A n c] ∧ IsInt w neg A n c z
theorem IntV.below {w w' : World} {v : Value} {z : Int} (h : IntV w v z) (hb : Below w.heap.size w w') : IntV w' v z := by
  obtain ⟨neg, A, n, c, e, hi⟩ := h
  exact ⟨neg, A, n, c, e, hi.below hb⟩
theorem IntV.drew {w : World} {v : Value} {z : Int} (h : IntV w v z) : IntV w.drew v z := h.below (Below.refl _ _).drew
/-- The pointer v points to a struct of two cells of the call's own, made since B: not yet written, or holding the integer z. -/
def OwnP (B : Nat) (w : World) (v : Value) (st : Bool) (z : Int) : Prop := ∃ g, v = .pointer (some ⟨g, 0, none⟩) ∧ B ≤ g ∧ ∃ a0 a1, Slot2 w g a0 a1 ∧ noLimb a0 = true ∧ noLimb a1 = true ∧ (st = true → IntV w (.agg #[a0, a1]) z)
theorem OwnP.below {B : Nat} {w w' : World} {v : Value} {st : Bool} {z : Int} (h : OwnP B w v st z) (hb : Below w.heap.size w w') : OwnP B w' v st z := by
  obtain ⟨g, e, hg, a0, a1, hs, n0, n1, hi⟩ := h
  exact ⟨g, e, hg, a0, a1, hs.after hb, n0, n1, fun h => (hi h).below hb⟩
/-- A new struct. -/
theorem OwnP.new {B : Nat} {w : World} (hB : B ≤ w.heap.size) (z : Int) : OwnP B (w.alloc (.cells #[.bool false, .slice none 0 0] 28)) (.pointer (some ⟨w.heap.size, 0, none⟩)) false z :=
  ⟨_, rfl, hB, _, _, Slot2.new w _ _ _, rfl, rfl, fun h => by cases h⟩
theorem IsInt.set2 {w : World} {neg : Bool} {A : Option Addr} {n c : Nat} {z : Int} (h : IsInt w neg A n c z) {g : Nat} {a0 a1 : Value} (hs : Slot2 w g a0 a1) (n0 : noLimb a0 = true) (n1 : noLimb a1 = true) (u0 u1 : Value) :
    IsInt ((w.setCell ⟨g, 0, none⟩ u0).setCell ⟨g, 1, none⟩ u1) neg A n c z := h.stored hs.1 hs.2.1 n0 n1 u0 u1
theorem IntV.set2 {w : World} {v : Value} {z : Int} (h : IntV w v z) {g : Nat} {a0 a1 : Value} (hs : Slot2 w g a0 a1) (n0 : noLimb a0 = true) (n1 : noLimb a1 = true) (u0 u1 : Value) : IntV ((w.setCell ⟨g, 0, none⟩ u0).setCell ⟨g, 1, none⟩ u1) v z := by
  obtain ⟨neg, A, n, c, e, hi⟩ := h
  exact ⟨neg, A, n, c, e, hi.set2 hs n0 n1 u0 u1⟩
/-- A store of an integer into one of them leaves the others. -/
theorem OwnP.far {B : Nat} {w : World} {v : Value} {st : Bool} {z : Int} (h : OwnP B w v st z) {g : Nat} (hne : v ≠ .pointer (some ⟨g, 0, none⟩)) {a0 a1 : Value} (hs : Slot2 w g a0 a1) (n0 : noLimb a0 = true) (n1 : noLimb a1 = true) (u0 u1 : Value) :
    OwnP B ((w.setCell ⟨g, 0, none⟩ u0).setCell ⟨g, 1, none⟩ u1) v st z := by
  obtain ⟨g', e, hg, b0, b1, hs', m0, m1, hi⟩ := h
  have hgg : g' ≠ g := fun h => hne (by rw [e, h])
  exact ⟨g', e, hg, b0, b1, hs'.far2 hgg u0 u1, m0, m1, fun h => (hi h).set2 hs n0 n1 u0 u1⟩
theorem OwnP.near {B : Nat} {w : World} {g : Nat} {z : Int} {neg : Bool} {A : Option Addr} {n c : Nat} (hi : IsInt w neg A n c z) (hg : B ≤ g) {a0 a1 : Value} (hs : Slot2 w g a0 a1) (n0 : noLimb a0 = true) (n1 : noLimb a1 = true) :
    OwnP B ((w.setCell ⟨g, 0, none⟩ (.bool neg)).setCell ⟨g, 1, none⟩ (.slice A n c)) (.pointer (some ⟨g, 0, none⟩)) true z :=
  ⟨g, rfl, hg, _, _, hs.set2 _ _, rfl, rfl, fun _ => ⟨neg, A, n, c, rfl, hi.set2 hs n0 n1 _ _⟩⟩
theorem OwnP.intAt {B : Nat} {w : World} {v : Value} {z : Int} (h : OwnP B w v true z) : ∃ g, v = .pointer (some ⟨g, 0, none⟩) ∧ IntAt w g z := by
  obtain ⟨g, e, _, a0, a1, hs, _, _, hi⟩ := h
  obtain ⟨neg, A, n, c, e2, hz⟩ := hi rfl
  have e3 : a0 = .bool neg ∧ a1 = .slice A n c := by simpa using e2
  rw [e3.1, e3.2] at hs
  exact ⟨g, e, neg, A, n, c, hs, hz⟩
/-- Two of them lie apart where one is new. -/
theorem OwnP.lt {B : Nat} {w : World} {v : Value} {st : Bool} {z : Int} (h : OwnP B w v st z) : v ≠ .pointer (some ⟨w.heap.size, 0, none⟩) := by
  obtain ⟨g, e, _, a0, a1, hs, _, _, _⟩ := h
  have := hs.2.2.2.2
  rw [e]
  intro h
  have e := congrArg (fun v => match v with | .pointer (some a) => a.block | _ => 0) h
  have e2 : g = w.heap.size := e
  omega
theorem Below.set2 {B : Nat} {w0 w : World} (h : Below B w0 w) {g : Nat} (hg : B ≤ g) (u0 u1 : Value) : Below B w0 ((w.setCell ⟨g, 0, none⟩ u0).setCell ⟨g, 1, none⟩ u1) := (h.setCell hg _).setCell hg _
end Go.Proofs.YtgpnpgfpcmiecaaDoor
namespace Go.Proofs.YtgpnpgfpcmiecaaDoor
open Go.RowKit
/-- A way through a region: i alone comes up (one); i is taken first (take); i or m comes up (two). -/
inductive Way where
  | done
  | one (i : Nat) (t : Way)
  | take (i : Nat) (t : Way)
  | two (i : Nat) (t : Way) (m : Nat) (u : Way)
/-- (i, true): taken first; (i, false): alone. -/
def Way.pre : List (Nat × Bool) → Way → Way
  | [], t => t
  | (i, true) :: l, t => .take i (Way.pre l t)
  | (i, false) :: l, t => .one i (Way.pre l t)
def wpSeqH (P : Program) (ops : Array Oper) (Q : Exit → Act → World → Prop) (S : World → Prop) : Way → Act → World → Prop
  | .done, a, w => Q .normal a w
  | .one i t, a, w => wpOp P ops Q i (fun a' w' => S w' ∧ (S w' → wpSeqH P ops Q S t a' w')) a w
  | .take i t, a, w => ∃ o v, ops[i]? = some o ∧ YieldsIf P ops S o v a ∧ wpSeqH P ops Q S t (a.put o.dst v) w
  | .two i t m u, a, w => wpOp P ops Q i (fun a' w' => S w' ∧ (S w' → wpSeqH P ops Q S t a' w')) a w ∧ wpOp P ops Q m (fun a' w' => S w' ∧ (S w' → wpSeqH P ops Q S u a' w')) a w
def Way.len : Way → Nat
  | .done => 0
  | .one _ t => t.len + 1
  | .take _ t => t.len + 1
  | .two _ t _ _ => t.len + 1
def chkSeq (ops : Array Oper) : Way → Array Bool → Bool
  | .done, listed => (Region.ready .any ops listed).isEmpty
  | .one i t, listed => decide (Region.ready .any ops listed = [i]) && chkSeq ops t (listed.setIfInBounds i true)
  | .take i t, listed => (Region.ready .any ops listed).contains i && Region.free .any ops listed i && chkSeq ops t (listed.setIfInBounds i true)
  | .two i t m u, listed => decide (Region.ready .any ops listed = [i, m]) && decide (t.len = u.len) && chkSeq ops t (listed.setIfInBounds i true) && chkSeq ops u (listed.setIfInBounds m true)
theorem wpAnyH_seq {P : Program} {ops : Array Oper} {Q : Exit → Act → World → Prop} {S : World → Prop} (hs : Region.noSelect ops = true) (hQ : ∀ (c : _) (a : Act) (d : Option Tmp) (v : Value) (w : World), Q (.panic c) (a.put d v) w → Q (.panic c) a w) :
    ∀ (l : Way) (listed : Array Bool) (a : Act) (w : World), chkSeq ops l listed = true → S w → wpSeqH P ops Q S l a w → wpAnyH P .any ops Q S l.len listed a w
  | .done, listed, a, w, hc, _, h => wpAnyH_done (by simpa [chkSeq] using hc) h _
  | .one i l, listed, a, w, hc, hS, h => by
    simp only [chkSeq, Bool.and_eq_true, decide_eq_true_eq] at hc
    refine wpAnyH_all hc.1 (by simp) fun j hj => ?_
    obtain rfl : j = i := by simpa using hj
    exact wpOp_mono (fun a' w' h' => ⟨h'.1, wpAnyH_seq hs hQ l _ _ _ hc.2 h'.1 (h'.2 h'.1)⟩) h
  | .take i l, listed, a, w, hc, hS, h => by
    simp only [chkSeq, Bool.and_eq_true] at hc
    obtain ⟨o, v, ho, hy, h⟩ := h
    exact wpAnyH_take ho hs hc.1.2 hc.1.1 (fun c a w => hQ c a _ _ w) hy hS (wpAnyH_seq hs hQ l _ _ _ hc.2 hS h)
  | .two i l m u, listed, a, w, hc, hS, h => by
    simp only [chkSeq, Bool.and_eq_true, decide_eq_true_eq] at hc
    obtain ⟨⟨⟨hr, hl⟩, hc1⟩, hc2⟩ := hc
    refine wpAnyH_all hr (by simp) fun j hj => ?_
    have hj' : j = i ∨ j = m := by simpa using hj
    rcases hj' with rfl | rfl
    · exact wpOp_mono (fun a' w' h' => ⟨h'.1, wpAnyH_seq hs hQ l _ _ _ hc1 h'.1 (h'.2 h'.1)⟩) h.1
    · rw [hl]
      exact wpOp_mono (fun a' w' h' => ⟨h'.1, wpAnyH_seq hs hQ u _ _ _ hc2 h'.1 (h'.2 h'.1)⟩) h.2
theorem wp_region_seq {P : Program} {ops : Array Oper} {id : Nat} {Q : Exit → Act → World → Prop} {a : Act} {w : World} (l : Way) (S : World → Prop) (hm : P.follows .mixedOrders = true) (hs : Region.noSelect ops = true)
    (hc : chkSeq ops l (Array.replicate ops.size false) = true) (hl : l.len = ops.size) (hS : S w.drew) (h : wpSeqH P ops (NoPanic Q) S l a w.drew) : (Code.region id ops true).wp P Q a w := by
  refine wp_region_noPanic (wp_region_held_drew (S := S) hm hS fun _ => ?_)
  have := wpAnyH_seq hs (fun c a d v w h => (h : False).elim) l _ a w.drew hc hS h
  rwa [hl] at this
/-- The step of an operation that is taken first. (The operations as a list: so that the one at hand is found written out.) -/
theorem seq_take {P : Program} {L : List Oper} {Q : Exit → Act → World → Prop} {S : World → Prop} {i : Nat} {l : Way} {a : Act} {w : World} (o : Oper) (v : Value) (ho : L[i]? = some o) (hy : YieldsIf P L.toArray S o v a)
    (h : wpSeqH P L.toArray Q S l (a.put o.dst v) w) : wpSeqH P L.toArray Q S (.take i l) a w := ⟨o, v, by simpa using ho, hy, h⟩
/-- The step of a single operation: S is shown anew behind it. -/
theorem seq_one {P : Program} {L : List Oper} {Q : Exit → Act → World → Prop} {S : World → Prop} {i : Nat} {l : Way} {a : Act} {w : World} (o : Oper) (ho : L[i]? = some o)
    (h : ∀ K : Act → World → Prop, Shut (∀ a w, S w → (S w → wpSeqH P L.toArray Q S l a w) → K a w) → if Region.wanted o (yielded L.toArray a.tmps) = true then Oper.wp P o a w K Q else K (a.put o.dst undef) w) :
    wpSeqH P L.toArray Q S (.one i l) a w :=
  wpOp_step (o := o) (by simpa using ho) fun K hK => h K fun a w hS hW => hK a w ⟨hS, hW⟩
/-- The step of a pair. -/
theorem seq_two {P : Program} {L : List Oper} {Q : Exit → Act → World → Prop} {S : World → Prop} {i m : Nat} {l u : Way} {a : Act} {w : World}
    (h1 : wpSeqH P L.toArray Q S (.one i l) a w) (h2 : wpSeqH P L.toArray Q S (.one m u) a w) : wpSeqH P L.toArray Q S (.two i l m u) a w := ⟨h1, h2⟩
/-- The check in pieces. -/
def chkPre (ops : Array Oper) : List (Nat × Bool) → Array Bool → Bool
  | [], _ => true
  | (i, true) :: l, listed => (Region.ready .any ops listed).contains i && Region.free .any ops listed i && chkPre ops l (listed.setIfInBounds i true)
  | (i, false) :: l, listed => decide (Region.ready .any ops listed = [i]) && chkPre ops l (listed.setIfInBounds i true)
def aft : List (Nat × Bool) → Array Bool → Array Bool
  | [], listed => listed
  | (i, _) :: l, listed => aft l (listed.setIfInBounds i true)
theorem chk_pre {ops : Array Oper} : ∀ (l : List (Nat × Bool)) (t : Way) (listed : Array Bool), chkPre ops l listed = true → chkSeq ops t (aft l listed) = true → chkSeq ops (.pre l t) listed = true
  | [], _, _, _, h => h
  | (i, true) :: l, t, listed, h1, h2 => by
    simp only [chkPre, Bool.and_eq_true] at h1
    simp only [Way.pre, chkSeq, Bool.and_eq_true]
    exact ⟨h1.1, chk_pre l t _ h1.2 h2⟩
  | (i, false) :: l, t, listed, h1, h2 => by
    simp only [chkPre, Bool.and_eq_true] at h1
    simp only [Way.pre, chkSeq, Bool.and_eq_true]
    exact ⟨h1.1, chk_pre l t _ h1.2 h2⟩
theorem chk_two {ops : Array Oper} (i : Nat) (t : Way) (m : Nat) (u : Way) (listed : Array Bool) (h : (decide (Region.ready .any ops listed = [i, m]) && decide (t.len = u.len)) = true) (h1 : chkSeq ops t (listed.setIfInBounds i true) = true) (h2 : chkSeq ops u (listed.setIfInBounds m true) = true) :
    chkSeq ops (.two i t m u) listed = true := by
  simp only [chkSeq, Bool.and_eq_true] at h ⊢
  exact ⟨⟨h, h1⟩, h2⟩
/-- A region's operations, taken out of a function. -/
def opsOf : Code → List Oper
  | .region _ ops _ => ops.toList
  | _ => []
end Go.Proofs.YtgpnpgfpcmiecaaDoor
