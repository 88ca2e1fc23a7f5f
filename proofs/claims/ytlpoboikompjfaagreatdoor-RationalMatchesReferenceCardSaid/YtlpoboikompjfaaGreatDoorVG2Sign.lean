/- Contracts of integer.Sign, Valid, Small, torsionref01.Sign, Valid. Contracts of torsionref01.Made. Contracts of torsionref01.Of, Neg, Abs, Valid and of made. Plain mathematics: sizes of products and powers, Newton's iteration. Plain mathematics of an estimate of a quotient by the highest limbs. Plain mathematics of long division: the estimate by the highest limbs, and one step of the subtraction. Contract of integer.estimate. Contracts of integer.groupText and divideInPlace. Contracts of integer.subtractMultiple and addBack: in a block of limbs, at an offset. -/
import Derived.Test.YtlpoboikompjfaaGreatDoorVG0RatMath
import Derived.Test.YtlpoboikompjfaaGreatDoorVG1WordB
namespace Go.Proofs.YtlpoboikompjfaaGreatDoor
open Go.RowKit
def sgn (z : Int) : Int := if z < 0 then -1 else if 0 < z then 1 else 0
theorem len_of {w : World} {neg : Bool} {A : Option Addr} {n c : Nat} {z : Int} (h : IsInt w neg A n c z) : n = 0 ↔ z = 0 := by
  rw [← h.lim.len, digs_len_zero]; omega
set_option maxHeartbeats 400000 in
theorem rsign_any (neg : Bool) (A : Option Addr) (n c : Nat) (z : Int) (w : World) (ha : IsInt w neg A n c z) :
    Calls Tryz.prog 58 #[.agg #[.bool neg, .slice A n c]] w fun e w' => e = .returned (.int .i64 (sgn z)) ∧ Below w.heap.size w w' := by
  have hz := len_of ha
  have hs := ha.sign
  rcases Nat.eq_zero_or_pos n with h0 | h0
  · have h1 : sgn z = 0 := by rw [hz.1 h0]; rfl
    rw [h1]
    subst h0
    clear hz hs h1
    go_enter Tryz.func58, Tryz.ntmps58
    go_wp2
    go_ret
    exact ⟨rfl, (Below.refl _ _).alloc (Nat.le_refl _) _⟩
  · have hb1 : ((n : Int) == 0) = false := by simp; omega
    by_cases h2 : z < 0
    · have h1 : sgn z = -1 := if_pos h2
      have h3 : neg = true := by rw [hs, decide_eq_true h2]
      rw [h1]
      subst h3
      clear hz hs h1
      go_enter Tryz.func58, Tryz.ntmps58
      go_wp2
      go_ret
      exact ⟨rfl, (Below.refl _ _).alloc (Nat.le_refl _) _⟩
    · have h1 : sgn z = 1 := by unfold sgn; rw [if_neg h2, if_pos (by omega)]
      have h3 : neg = false := by rw [hs, decide_eq_false h2]
      rw [h1]
      subst h3
      clear hz hs h1
      go_enter Tryz.func58, Tryz.ntmps58
      go_wp2
      go_ret
      exact ⟨rfl, (Below.refl _ _).alloc (Nat.le_refl _) _⟩
set_option maxHeartbeats 400000 in
theorem sign_any (neg : Bool) (A : Option Addr) (n c : Nat) (z : Int) (w : World) (ha : IsInt w neg A n c z) :
    Calls Tryz.prog 60 #[.agg #[.bool neg, .slice A n c]] w fun e w' => e = .returned (.int .i64 (sgn z)) ∧ Below w.heap.size w w' := by
  have H := fun W (hW : Below w.heap.size w W) => tidy_any neg A n c w.heap.size (digs z.natAbs) W (ha.lim.below hW) hW.size
  have e1 : zOf neg (val (digs z.natAbs)) = z := by rw [val_digs, ha.sign]; exact zOf_self z
  rw [e1, val_digs] at H
  have hz : (digs z.natAbs).length = 0 ↔ z = 0 := by rw [digs_len_zero]; omega
  generalize (digs z.natAbs).length = k at *
  have P0 := Slot2.new w (.bool neg) (.slice A n c) 26
  have HB := (Below.refl w.heap.size w).alloc (Nat.le_refl _) (.cells #[.bool neg, .slice A n c] 26)
  by_cases h2 : z < 0
  · have h1 : sgn z = -1 := if_pos h2
    rw [decide_eq_true h2] at H
    rw [h1]
    have H' := Lib.hid H
    clear hz h1 H e1
    go_enter Tryz.func60, Tryz.ntmps60
    go_wp2_with fail
    refine (H'.out _ HB).mono ?_
    rintro e w1 ⟨rfl, hb1⟩
    obtain ⟨k0, k1, f0, f1, _⟩ := P0.after hb1
    go_wp2
    go_ret
    exact ⟨rfl, ((HB.trans (hb1.mono HB.size)).setCell (by simp) _).setCell (by simp) _⟩
  · rw [decide_eq_false h2] at H
    by_cases h0 : z = 0
    · have h1 : sgn z = 0 := by rw [h0]; rfl
      obtain rfl : k = 0 := hz.2 h0
      rw [h1]
      have H' := Lib.hid H
      clear hz h1 H e1
      go_enter Tryz.func60, Tryz.ntmps60
      go_wp2_with fail
      refine (H'.out _ HB).mono ?_
      rintro e w1 ⟨rfl, hb1⟩
      obtain ⟨k0, k1, f0, f1, _⟩ := P0.after hb1
      go_wp2
      go_ret
      exact ⟨rfl, ((HB.trans (hb1.mono HB.size)).setCell (by simp) _).setCell (by simp) _⟩
    · have h1 : sgn z = 1 := by unfold sgn; rw [if_neg h2, if_pos (by omega)]
      have hk : 0 < k := by omega
      rw [h1]
      have H' := Lib.hid H
      clear hz h1 H e1
      go_enter Tryz.func60, Tryz.ntmps60
      go_wp2_with fail
      refine (H'.out _ HB).mono ?_
      rintro e w1 ⟨rfl, hb1⟩
      obtain ⟨k0, k1, f0, f1, _⟩ := P0.after hb1
      go_wp2
      go_ret
      exact ⟨rfl, ((HB.trans (hb1.mono HB.size)).setCell (by simp) _).setCell (by simp) _⟩
end Go.Proofs.YtlpoboikompjfaaGreatDoor
namespace Go.Proofs.YtlpoboikompjfaaGreatDoor
open Go.RowKit
theorem limbs_nil : Limbs [] := fun x hx => by simp at hx
theorem Slot2.grown {w w1 : World} {g : Nat} {a0 a1 : Value} (h : Slot2 w g a0 a1) {row : Option Nat} (hg : w.grownBy w1 row) (hne : some g ≠ row) : Slot2 w1 g a0 a1 := by
  have e := hg.block g h.2.2.2.2 hne
  exact ⟨(World.cell?_of_block (w := w) (a := ⟨g, 0, none⟩) e).trans h.1, (World.cell?_of_block (w := w) (a := ⟨g, 1, none⟩) e).trans h.2.1,
    (World.frozen?_of_block (w := w) (a := ⟨g, 0, none⟩) e).trans h.2.2.1, (World.frozen?_of_block (w := w) (a := ⟨g, 1, none⟩) e).trans h.2.2.2.1, Nat.lt_of_lt_of_le h.2.2.2.2 hg.size⟩
set_option maxHeartbeats 1000000 in
theorem Made_false (A : Option Addr) (n c B : Nat) (xs : List Nat) (w : World) (ha : Lim w B A n c xs) (hB : B ≤ w.heap.size) (hn : n ≤ 1000000) :
    Calls Tryz.prog 57 #[.slice A n c, .bool false] w (RetInt w (zOf false (val xs))) := by
  have hcap := ha.cap
  have hnc : n ≤ c := by omega
  have hcm : c ≤ 9223372036854775807 := by omega
  clear hcap
  have HL := Lib.hid ha.len
  have hLx : Limbs xs := ha.lt
  have S0 := Slot2.new w (.bool false) (.slice none 0 0) 26
  have E0 := Own.empty (w.alloc (.cells #[.bool false, .slice none 0 0] 26)) (w.heap.size + 1) (by simp)
  rw [World.size_alloc] at E0
  go_enter Tryz.func57, Tryz.ntmps57
  go_wp2
  go_loop [5] (fun i => ∃ k : Nat, k ≤ n ∧ i = .int .i64 k ∧ Hid (∀ j : Nat, k ≤ j → j < n → xs.getD j 0 = 0)) (fun i => (intOf i).toNat)
  case atStart => exact ⟨n, by omega, rfl, fun j h1 h2 => absurd h1 (by omega)⟩
  case round =>
    obtain ⟨k, hkn, rfl, hz⟩ := hrel
    rcases Nat.eq_zero_or_pos k with h0 | h0
    · subst h0
      have HV := Lib.hid (digs_take hLx 0 (by omega) (fun j h1 h2 => hz.out j h1 (by rw [HL.out] at h2; exact h2)) (fun h => absurd h (by omega)))
      have hv0 : val xs = 0 := by have := HV.out; rwa [List.take_zero, digs_ne] at this
      have HV0 := Lib.hid hv0
      clear hv0
      have HT := (((ha.take (0) (by omega)).more hB).alloc (Nat.le_refl _) (.cells #[.bool false, .slice none 0 0] 26)).alloc (by simp) (.cells #[] 84)
      go_wp2_with (at_builtin; refine wpList_append_lim _ rfl (.tmp 25) (.tmp 28) rfl (w.heap.size + 1) (.slice (some ⟨w.heap.size + 1, 0, none⟩) 0 0) 0 [] rfl ?h1 ?h2 w.heap.size A (0) c (xs.take (0)) rfl ?h3 ?h4 ?h5 ?h6)
      all_goals (first | exact E0 | exact HT | exact limbs_nil | omega | simp | skip)
      case h6 =>
        intro A' c' w1 hl ho hg
        have B1 : Below w.heap.size w w1 := (((Below.refl w.heap.size w).alloc (Nat.le_refl _) _).alloc (by simp) _).grown hg (by simp; omega) (fun j hj => by simp [Value.ownBlock] at hj; omega)
        obtain ⟨k0, k1, f0, f1, _⟩ := (Slot2.grown (S0.alloc (.cells #[] 84)) hg (by simp [Value.ownBlock]))
        go_wp2
        refine bodyPost_ret (v := .agg #[.bool false, .slice A' (0 + (0)) c']) (by simp [results, Tryz.results57, go_sem, k0, k1]) rfl ⟨_, A', _, c', rfl, ?_, (B1.setCell (by simp) _).setCell (by simp) _⟩
        refine IsInt.stored ⟨?_, ?_⟩ k0 k1 rfl rfl _ _
        · rw [zOf_neg, HV0.out]; rfl
        · rw [zOf_natAbs, HV.out]; exact hl
    · obtain ⟨k, rfl⟩ : ∃ j, k = j + 1 := ⟨k - 1, by omega⟩
      obtain ⟨ad, rfl, _, x, hx, hxl, hcx⟩ := ((ha.more hB).alloc (Nat.le_refl _) (.cells #[.bool false, .slice none 0 0] 26)).at_ (show k < n by omega)
      by_cases h1 : x = 0
      · subst h1
        go_wp2
        refine ⟨⟨k, by omega, rfl, fun j h1 h2 => ?_⟩, by simp [intOf] <;> omega⟩
        rcases Nat.eq_or_lt_of_le h1 with e | e
        · subst e; exact hx.out.symm
        · exact hz.out j (by omega) h2
      · have hb1 : ((x : Int) == 0) = false := by simp; omega
        have HV := Lib.hid (digs_take hLx (k + 1) (by rw [HL.out]; omega) (fun j h1 h2 => hz.out j h1 (by rw [HL.out] at h2; exact h2)) (fun _ => by rw [Nat.add_sub_cancel, ← hx.out]; exact h1))
        have hv0 : 0 < val xs := by
          rcases Nat.eq_zero_or_pos (val xs) with e | e
          · have h2 := HV.out
            have h3 : (xs.take (k + 1)).length = k + 1 := by rw [List.length_take, HL.out]; omega
            rw [← h2, e, digs_zero] at h3
            simp at h3
          · exact e
        have HV0 := Lib.hid hv0
        clear hv0 h1
        have HT := (((ha.take (k + 1) (by omega)).more hB).alloc (Nat.le_refl _) (.cells #[.bool false, .slice none 0 0] 26)).alloc (by simp) (.cells #[] 84)
        go_wp2_with (at_builtin; refine wpList_append_lim _ rfl (.tmp 25) (.tmp 28) rfl (w.heap.size + 1) (.slice (some ⟨w.heap.size + 1, 0, none⟩) 0 0) 0 [] rfl ?g1 ?g2 w.heap.size (some ad) (k + 1) c (xs.take (k + 1)) rfl ?g3 ?g4 ?g5 ?g6)
        all_goals (first | exact E0 | exact HT | exact limbs_nil | omega | simp | skip)
        case g6 =>
          intro A' c' w1 hl ho hg
          have B1 : Below w.heap.size w w1 := (((Below.refl w.heap.size w).alloc (Nat.le_refl _) _).alloc (by simp) _).grown hg (by simp; omega) (fun j hj => by simp [Value.ownBlock] at hj; omega)
          obtain ⟨k0, k1, f0, f1, _⟩ := (Slot2.grown (S0.alloc (.cells #[] 84)) hg (by simp [Value.ownBlock]))
          go_wp2
          refine bodyPost_ret (v := .agg #[.bool false, .slice A' (k + 1) c']) (by simp [results, Tryz.results57, go_sem, k0, k1]) rfl ⟨_, A', _, c', rfl, ?_, (B1.setCell (by simp) _).setCell (by simp) _⟩
          refine IsInt.stored ⟨?_, ?_⟩ k0 k1 rfl rfl _ _
          · rw [zOf_neg, decide_eq_true HV0.out]; rfl
          · rw [zOf_natAbs, HV.out]; exact hl
set_option maxHeartbeats 1000000 in
theorem Made_true (A : Option Addr) (n c B : Nat) (xs : List Nat) (w : World) (ha : Lim w B A n c xs) (hB : B ≤ w.heap.size) (hn : n ≤ 1000000) :
    Calls Tryz.prog 57 #[.slice A n c, .bool true] w (RetInt w (zOf true (val xs))) := by
  have hcap := ha.cap
  have hnc : n ≤ c := by omega
  have hcm : c ≤ 9223372036854775807 := by omega
  clear hcap
  have HL := Lib.hid ha.len
  have hLx : Limbs xs := ha.lt
  have S0 := Slot2.new w (.bool false) (.slice none 0 0) 26
  have E0 := Own.empty (w.alloc (.cells #[.bool false, .slice none 0 0] 26)) (w.heap.size + 1) (by simp)
  rw [World.size_alloc] at E0
  go_enter Tryz.func57, Tryz.ntmps57
  go_wp2
  go_loop [5] (fun i => ∃ k : Nat, k ≤ n ∧ i = .int .i64 k ∧ Hid (∀ j : Nat, k ≤ j → j < n → xs.getD j 0 = 0)) (fun i => (intOf i).toNat)
  case atStart => exact ⟨n, by omega, rfl, fun j h1 h2 => absurd h1 (by omega)⟩
  case round =>
    obtain ⟨k, hkn, rfl, hz⟩ := hrel
    rcases Nat.eq_zero_or_pos k with h0 | h0
    · subst h0
      have HV := Lib.hid (digs_take hLx 0 (by omega) (fun j h1 h2 => hz.out j h1 (by rw [HL.out] at h2; exact h2)) (fun h => absurd h (by omega)))
      have hv0 : val xs = 0 := by have := HV.out; rwa [List.take_zero, digs_ne] at this
      have HV0 := Lib.hid hv0
      clear hv0
      have HT := (((ha.take (0) (by omega)).more hB).alloc (Nat.le_refl _) (.cells #[.bool false, .slice none 0 0] 26)).alloc (by simp) (.cells #[] 84)
      go_wp2_with (at_builtin; refine wpList_append_lim _ rfl (.tmp 25) (.tmp 28) rfl (w.heap.size + 1) (.slice (some ⟨w.heap.size + 1, 0, none⟩) 0 0) 0 [] rfl ?h1 ?h2 w.heap.size A (0) c (xs.take (0)) rfl ?h3 ?h4 ?h5 ?h6)
      all_goals (first | exact E0 | exact HT | exact limbs_nil | omega | simp | skip)
      case h6 =>
        intro A' c' w1 hl ho hg
        have B1 : Below w.heap.size w w1 := (((Below.refl w.heap.size w).alloc (Nat.le_refl _) _).alloc (by simp) _).grown hg (by simp; omega) (fun j hj => by simp [Value.ownBlock] at hj; omega)
        obtain ⟨k0, k1, f0, f1, _⟩ := (Slot2.grown (S0.alloc (.cells #[] 84)) hg (by simp [Value.ownBlock]))
        go_wp2
        refine bodyPost_ret (v := .agg #[.bool false, .slice A' (0 + (0)) c']) (by simp [results, Tryz.results57, go_sem, k0, k1]) rfl ⟨_, A', _, c', rfl, ?_, (B1.setCell (by simp) _).setCell (by simp) _⟩
        refine IsInt.stored ⟨?_, ?_⟩ k0 k1 rfl rfl _ _
        · rw [zOf_neg, HV0.out]; rfl
        · rw [zOf_natAbs, HV.out]; exact hl
    · obtain ⟨k, rfl⟩ : ∃ j, k = j + 1 := ⟨k - 1, by omega⟩
      obtain ⟨ad, rfl, _, x, hx, hxl, hcx⟩ := ((ha.more hB).alloc (Nat.le_refl _) (.cells #[.bool false, .slice none 0 0] 26)).at_ (show k < n by omega)
      by_cases h1 : x = 0
      · subst h1
        go_wp2
        refine ⟨⟨k, by omega, rfl, fun j h1 h2 => ?_⟩, by simp [intOf] <;> omega⟩
        rcases Nat.eq_or_lt_of_le h1 with e | e
        · subst e; exact hx.out.symm
        · exact hz.out j (by omega) h2
      · have hb1 : ((x : Int) == 0) = false := by simp; omega
        have HV := Lib.hid (digs_take hLx (k + 1) (by rw [HL.out]; omega) (fun j h1 h2 => hz.out j h1 (by rw [HL.out] at h2; exact h2)) (fun _ => by rw [Nat.add_sub_cancel, ← hx.out]; exact h1))
        have hv0 : 0 < val xs := by
          rcases Nat.eq_zero_or_pos (val xs) with e | e
          · have h2 := HV.out
            have h3 : (xs.take (k + 1)).length = k + 1 := by rw [List.length_take, HL.out]; omega
            rw [← h2, e, digs_zero] at h3
            simp at h3
          · exact e
        have HV0 := Lib.hid hv0
        clear hv0 h1
        have HT := (((ha.take (k + 1) (by omega)).more hB).alloc (Nat.le_refl _) (.cells #[.bool false, .slice none 0 0] 26)).alloc (by simp) (.cells #[] 84)
        go_wp2_with (at_builtin; refine wpList_append_lim _ rfl (.tmp 25) (.tmp 28) rfl (w.heap.size + 1) (.slice (some ⟨w.heap.size + 1, 0, none⟩) 0 0) 0 [] rfl ?g1 ?g2 w.heap.size (some ad) (k + 1) c (xs.take (k + 1)) rfl ?g3 ?g4 ?g5 ?g6)
        all_goals (first | exact E0 | exact HT | exact limbs_nil | omega | simp | skip)
        case g6 =>
          intro A' c' w1 hl ho hg
          have B1 : Below w.heap.size w w1 := (((Below.refl w.heap.size w).alloc (Nat.le_refl _) _).alloc (by simp) _).grown hg (by simp; omega) (fun j hj => by simp [Value.ownBlock] at hj; omega)
          obtain ⟨k0, k1, f0, f1, _⟩ := (Slot2.grown (S0.alloc (.cells #[] 84)) hg (by simp [Value.ownBlock]))
          go_wp2
          refine bodyPost_ret (v := .agg #[.bool true, .slice A' (k + 1) c']) (by simp [results, Tryz.results57, go_sem, k0, k1]) rfl ⟨_, A', _, c', rfl, ?_, (B1.setCell (by simp) _).setCell (by simp) _⟩
          refine IsInt.stored ⟨?_, ?_⟩ k0 k1 rfl rfl _ _
          · rw [zOf_neg, decide_eq_true HV0.out]; rfl
          · rw [zOf_natAbs, HV.out]; exact hl
theorem Made_any (neg : Bool) (A : Option Addr) (n c B : Nat) (xs : List Nat) (w : World) (ha : Lim w B A n c xs) (hB : B ≤ w.heap.size) (hn : n ≤ 1000000) :
    Calls Tryz.prog 57 #[.slice A n c, .bool neg] w (RetInt w (zOf neg (val xs))) := by
  cases neg
  · exact Made_false A n c B xs w ha hB hn
  · exact Made_true A n c B xs w ha hB hn
end Go.Proofs.YtlpoboikompjfaaGreatDoor
namespace Go.Proofs.YtlpoboikompjfaaGreatDoor
open Go.RowKit
set_option maxHeartbeats 400000 in
theorem rneg_any (neg : Bool) (A : Option Addr) (n c : Nat) (z : Int) (w : World) (ha : IsInt w neg A n c z) (hn : n ≤ 1000000) :
    Calls Tryz.prog 64 #[.agg #[.bool neg, .slice A n c]] w (RetInt w (-z)) := by
  have H2 := fun W (hW : Below w.heap.size w W) => Made_any (!neg) A n c w.heap.size (digs z.natAbs) W (ha.lim.below hW) hW.size hn
  have e1 : zOf (!neg) (val (digs z.natAbs)) = -z := by rw [val_digs, ha.sign]; exact zOf_not z
  simp only [e1] at H2
  have H2' := Lib.hid H2
  clear H2 e1
  obtain ⟨HB, P0, R0⟩ := frame11 w (.bool neg) (.slice A n c)
  go_enter Tryz.func64, Tryz.ntmps64
  go_wp2_with fail
  refine (H2'.out _ HB).mono ?_
  rintro e w2 ⟨neg2, A2, n2, c2, rfl, hi2, hb2⟩
  obtain ⟨k0, k1, f0, f1, _⟩ := R0.after hb2
  go_wp2
  exact bodyPost_ret (v := .agg #[.bool neg2, .slice A2 n2 c2]) (by simp [results, Tryz.results64, go_sem, k0, k1]) rfl
    (RetInt.stored hi2 HB hb2 (by omega) k0 k1 rfl rfl)
set_option maxHeartbeats 400000 in
theorem rabs_any (neg : Bool) (A : Option Addr) (n c : Nat) (z : Int) (w : World) (ha : IsInt w neg A n c z) (hn : n ≤ 1000000) :
    Calls Tryz.prog 125 #[.agg #[.bool neg, .slice A n c]] w (RetInt w (z.natAbs : Int)) := by
  have H2 := fun W (hW : Below w.heap.size w W) => Made_any false A n c w.heap.size (digs z.natAbs) W (ha.lim.below hW) hW.size hn
  have e1 : zOf false (val (digs z.natAbs)) = (z.natAbs : Int) := by rw [val_digs]; rfl
  simp only [e1] at H2
  have H2' := Lib.hid H2
  clear H2 e1
  obtain ⟨HB, P0, R0⟩ := frame11 w (.bool neg) (.slice A n c)
  go_enter Tryz.func125, Tryz.ntmps125
  go_wp2_with fail
  refine (H2'.out _ HB).mono ?_
  rintro e w2 ⟨neg2, A2, n2, c2, rfl, hi2, hb2⟩
  obtain ⟨k0, k1, f0, f1, _⟩ := R0.after hb2
  go_wp2
  exact bodyPost_ret (v := .agg #[.bool neg2, .slice A2 n2 c2]) (by simp [results, Tryz.results125, go_sem, k0, k1]) rfl
    (RetInt.stored hi2 HB hb2 (by omega) k0 k1 rfl rfl)

theorem val_two (x : Nat) : val [x % 4294967296, x / 4294967296] = x := by
  simp only [val]; omega
set_option maxHeartbeats 400000 in
theorem rof_any (n : Int) (w : World) (h1 : -9223372036854775808 ≤ n) (h2 : n ≤ 9223372036854775807) :
    Calls Tryz.prog 42 #[.int .i64 n] w (RetInt w n) := by
  have R0 := Slot2.new w (.bool false) (.slice none 0 0) 26
  have HB := (Below.refl w.heap.size w).alloc (Nat.le_refl _) (.cells #[.bool false, .slice none 0 0] 26)
  have H : ∀ (neg : Bool) (x : Nat) (o : Array Value), x < 18446744073709551616 → zOf neg x = n → o = (ints [x % 4294967296, x / 4294967296]).toArray → Calls Tryz.prog 57 #[.slice (some ⟨w.heap.size + 1, 0, none⟩) 2 2, .bool neg]
      ((w.alloc (.cells #[.bool false, .slice none 0 0] 26)).alloc (.cells o 84)) (RetInt ((w.alloc (.cells #[.bool false, .slice none 0 0] 26)).alloc (.cells o 84)) n) := by
    intro neg x o hx hz ho
    have hr := row_new (w.alloc (.cells #[.bool false, .slice none 0 0] 26)) [x % 4294967296, x / 4294967296] o ho
    rw [World.size_alloc] at hr
    have := Made_any neg (some ⟨w.heap.size + 1, 0, none⟩) 2 2 _ [x % 4294967296, x / 4294967296] _ (hr.len_lim (fun z hz => by simp at hz; omega) 2 rfl (by omega)) (Nat.le_refl _) (by omega)
    rw [val_two x, hz] at this
    exact this
  have H' := Lib.hid H
  clear H
  by_cases h0 : n < 0
  · have HW := Lib.hid (wrap_neg_wrap n h1 h0)
    go_enter Tryz.func42, Tryz.ntmps42
    go_wp2_with fail
    rw [HW.out]
    refine (H'.out true n.natAbs _ (by omega) ?_ ?_).mono ?_
    · unfold zOf; simp; try omega
    · simp [ints]; try omega
    rintro e w2 ⟨neg2, A2, n2, c2, rfl, hi2, hb2⟩
    obtain ⟨k0, k1, f0, f1, _⟩ := (R0.alloc _).after hb2
    go_wp2
    exact bodyPost_ret (v := .agg #[.bool neg2, .slice A2 n2 c2]) (by simp [results, Tryz.results42, go_sem, k0, k1]) rfl
      (RetInt.stored hi2 (HB.alloc (by simp) _) hb2 (by omega) k0 k1 rfl rfl)
  · obtain ⟨n, rfl⟩ := Int.eq_ofNat_of_zero_le (show 0 ≤ n by omega)
    go_enter Tryz.func42, Tryz.ntmps42
    go_wp2_with fail
    refine (H'.out false n _ (by omega) ?_ ?_).mono ?_
    · unfold zOf; simp; try omega
    · simp [ints]; try omega
    rintro e w2 ⟨neg2, A2, n2, c2, rfl, hi2, hb2⟩
    obtain ⟨k0, k1, f0, f1, _⟩ := (R0.alloc _).after hb2
    go_wp2
    exact bodyPost_ret (v := .agg #[.bool neg2, .slice A2 n2 c2]) (by simp [results, Tryz.results42, go_sem, k0, k1]) rfl
      (RetInt.stored hi2 (HB.alloc (by simp) _) hb2 (by omega) k0 k1 rfl rfl)
end Go.Proofs.YtlpoboikompjfaaGreatDoor
namespace Go.Proofs.YtlpoboikompjfaaGreatDoor
theorem digs_len_mul (x y : Nat) : (digs (x * y)).length ≤ (digs x).length + (digs y).length := by
  apply digs_len_le
  rw [Nat.pow_add]
  rcases Nat.eq_zero_or_pos y with h | h
  · subst h
    rw [Nat.mul_zero]
    exact Nat.mul_pos (Nat.pow_pos (by omega)) (Nat.pow_pos (by omega))
  · exact Nat.lt_of_lt_of_le (Nat.mul_lt_mul_of_pos_right (lt_digs_len x) h) (Nat.mul_le_mul_left _ (Nat.le_of_lt (lt_digs_len y)))
theorem digs_len_pow (x k : Nat) : (digs (x ^ k)).length ≤ k * (digs x).length + 1 := by
  induction k with
  | zero => rw [Nat.pow_zero]; exact Nat.le_trans (digs_len_le (k := 1) (by omega)) (by omega)
  | succ k ih =>
    rw [Nat.pow_succ, Nat.succ_mul]
    have := digs_len_mul (x ^ k) x
    omega
theorem digs_len_lt {k v : Nat} (h : 4294967296 ^ k ≤ v) : k < (digs v).length := by
  rcases Nat.lt_or_ge k (digs v).length with h1 | h1
  · exact h1
  · have h2 := lt_digs_len v
    have h3 : 4294967296 ^ (digs v).length ≤ 4294967296 ^ k := Nat.pow_le_pow_right (by omega) h1
    omega
/-- Limbs of the least length for their value are those of the value. -/
theorem eq_digs {xs : List Nat} (h : Limbs xs) (hl : xs.length ≤ (digs (val xs)).length) : xs = digs (val xs) := by
  have := digs_eq_take h
  rw [List.take_of_length_le hl] at this
  exact this.symm
theorem sq_lt_sq {a b : Nat} (h : a * a < b * b) : a < b := by
  rcases Nat.lt_or_ge a b with h1 | h1
  · exact h1
  · have := Nat.mul_le_mul h1 h1; omega
/-- The step of Newton's iteration stays above the root. -/
theorem newton_step {a r q : Nat} (h : a < r * (q + 1)) : a < ((r + q) / 2 + 1) * ((r + q) / 2 + 1) := by
  have h1 : r + q + 1 ≤ 2 * ((r + q) / 2 + 1) := by omega
  generalize (r + q) / 2 + 1 = m at *
  have h2 : (r + (q + 1)) * (r + (q + 1)) ≤ (2 * m) * (2 * m) := Nat.mul_le_mul h1 h1
  have h3 : (2 * m) * (2 * m) = 4 * (m * m) := by rw [Nat.mul_mul_mul_comm]
  have h4 : 4 * (r * (q + 1)) ≤ (r + (q + 1)) * (r + (q + 1)) := by
    rcases Nat.le_total r (q + 1) with e | e
    · obtain ⟨d, hd⟩ := Nat.le.dest e
      rw [← hd]
      have : (r + (r + d)) * (r + (r + d)) = 4 * (r * (r + d)) + d * d := by
        have e1 : r + (r + d) = 2 * r + d := by omega
        rw [e1, Nat.mul_add, Nat.add_mul, Nat.add_mul, Nat.mul_add]
        have e2 : 2 * r * (2 * r) = 4 * (r * r) := by rw [Nat.mul_mul_mul_comm]
        have e3 : 2 * r * d = 2 * (r * d) := by rw [Nat.mul_assoc]
        have e4 : d * (2 * r) = 2 * (r * d) := by rw [Nat.mul_comm, Nat.mul_assoc]
        rw [e2, e3, e4]; omega
      omega
    · obtain ⟨d, hd⟩ := Nat.le.dest e
      generalize q + 1 = u at *
      subst hd
      have : (u + d + u) * (u + d + u) = 4 * ((u + d) * u) + d * d := by
        have e1 : u + d + u = 2 * u + d := by omega
        rw [e1, Nat.mul_add, Nat.add_mul, Nat.add_mul, Nat.add_mul]
        have e2 : 2 * u * (2 * u) = 4 * (u * u) := by rw [Nat.mul_mul_mul_comm]
        have e3 : 2 * u * d = 2 * (d * u) := by rw [Nat.mul_assoc, Nat.mul_comm u d]
        have e4 : d * (2 * u) = 2 * (d * u) := by rw [Nat.mul_comm, Nat.mul_assoc, Nat.mul_comm u d]
        rw [e2, e3, e4]; omega
      omega
  omega
end Go.Proofs.YtlpoboikompjfaaGreatDoor
namespace Go.Proofs.YtlpoboikompjfaaGreatDoor
theorem val_split (xs : List Nat) (k : Nat) (h : k ≤ xs.length) : val xs = val (xs.take k) + 4294967296 ^ k * val (xs.drop k) := by
  have := val_append (xs.take k) (xs.drop k)
  rwa [List.take_append_drop, List.length_take, Nat.min_eq_left h] at this
theorem top_lt {xs : List Nat} {m : Nat} (hl : Limbs xs) (h : xs.length = m + 1) : val xs < 4294967296 ^ m * (xs.getD m 0 + 1) := by
  have h1 := val_take_succ xs m
  rw [List.take_of_length_le (by omega)] at h1
  have h2 := val_lt (limbs_take hl m)
  rw [List.length_take, Nat.min_eq_left (by omega)] at h2
  rw [Nat.mul_add]; omega
theorem top_le {xs : List Nat} {m : Nat} (h : xs.length = m + 1) : 4294967296 ^ m * xs.getD m 0 ≤ val xs := by
  have h1 := val_take_succ xs m
  rw [List.take_of_length_le (by omega)] at h1
  omega
theorem top2_le {xs : List Nat} {m : Nat} (h : xs.length = m + 2) : 4294967296 ^ m * (xs.getD (m + 1) 0 * 4294967296 + xs.getD m 0) ≤ val xs := by
  have h1 := val_take_succ xs (m + 1)
  rw [List.take_of_length_le (by omega)] at h1
  have h2 := val_take_succ xs m
  rw [Nat.pow_succ] at h1
  rw [Nat.mul_add, Nat.mul_comm (xs.getD (m + 1) 0), ← Nat.mul_assoc]
  omega
/-- The estimate at equal lengths. -/
theorem est_zero {r d m : Nat} (hr : (digs r).length = m + 1) (hd : (digs d).length = m + 1) (hdr : d ≤ r) : max 1 ((digs r).getD m 0 / ((digs d).getD m 0 + 1)) * d ≤ r := by
  have h1 := top_lt (limbs_digs d) hd
  have h2 := top_le hr
  rw [val_digs] at h1 h2
  generalize (digs r).getD m 0 = x at *
  generalize (digs d).getD m 0 + 1 = y at *
  rcases Nat.le_total (x / y) 1 with h | h
  · rw [Nat.max_eq_left h, Nat.one_mul]; exact hdr
  · rw [Nat.max_eq_right h]
    have h3 : x / y * y ≤ x := Nat.div_mul_le_self x y
    have h4 : x / y * d ≤ x / y * (4294967296 ^ m * y) := Nat.mul_le_mul_left _ (Nat.le_of_lt h1)
    have h5 : 4294967296 ^ m * (x / y * y) ≤ 4294967296 ^ m * x := Nat.mul_le_mul_left _ h3
    rw [Nat.mul_left_comm] at h4
    omega
/-- The estimate where the dividend is longer. -/
theorem est_more {r d m k : Nat} (hr : (digs r).length = m + 1 + (k + 1)) (hd : (digs d).length = m + 1) :
    1 ≤ ((digs r).getD (m + k + 1) 0 * 4294967296 + (digs r).getD (m + k) 0) / ((digs d).getD m 0 + 1) ∧
    ((digs r).getD (m + k + 1) 0 * 4294967296 + (digs r).getD (m + k) 0) / ((digs d).getD m 0 + 1) * 4294967296 ^ k * d ≤ r := by
  have h1 := top_lt (limbs_digs d) hd
  have h2 := top2_le (xs := digs r) (m := m + k) (by omega)
  have hx : 1 ≤ (digs r).getD (m + k + 1) 0 := by
    have hne : digs r ≠ [] := by intro e; rw [e] at hr; simp at hr
    have h3 := digs_last (n := r) hne
    rw [List.getLast_eq_getElem] at h3
    rw [List.getD_eq_getElem?_getD, List.getElem?_eq_getElem (by omega)]
    have e : (digs r).length - 1 = m + k + 1 := by omega
    simp only [e] at h3
    simp only [Option.getD_some]
    omega
  have hy : (digs d).getD m 0 < 4294967296 := by
    rw [List.getD_eq_getElem?_getD, List.getElem?_eq_getElem (by omega)]
    exact limbs_digs d _ (List.getElem_mem _)
  rw [val_digs] at h1 h2
  generalize (digs r).getD (m + k + 1) 0 = x at *
  generalize (digs r).getD (m + k) 0 = x2 at *
  generalize hY : (digs d).getD m 0 + 1 = y at *
  refine ⟨?_, ?_⟩
  · rw [Nat.le_div_iff_mul_le (by omega)]; omega
  · generalize hX : x * 4294967296 + x2 = X at *
    have h3 : X / y * y ≤ X := Nat.div_mul_le_self X y
    have h4 : X / y * 4294967296 ^ k * d ≤ X / y * 4294967296 ^ k * (4294967296 ^ m * y) := Nat.mul_le_mul_left _ (Nat.le_of_lt h1)
    have h5 : 4294967296 ^ (m + k) * (X / y * y) ≤ 4294967296 ^ (m + k) * X := Nat.mul_le_mul_left _ h3
    have e : X / y * 4294967296 ^ k * (4294967296 ^ m * y) = 4294967296 ^ (m + k) * (X / y * y) := by
      rw [Nat.pow_add]
      simp only [Nat.mul_comm, Nat.mul_left_comm, Nat.mul_assoc]
    omega
end Go.Proofs.YtlpoboikompjfaaGreatDoor
namespace Go.Proofs.YtlpoboikompjfaaGreatDoor
/-- What the estimate of a quotient's limb is: the quotient of the three highest limbs by two, but less than 2^32. -/
def estN (u v : Nat) : Nat := min 4294967295 (u / v)
theorem estN_of {u v g : Nat} (hv : 0 < v) (h1 : g ≤ 4294967295) (h2 : g * v ≤ u) (h3 : estN u v ≤ g) : g = estN u v := by
  have h4 : g ≤ u / v := (Nat.le_div_iff_mul_le hv).2 h2
  unfold estN at *; omega
theorem estN_lt {u v g : Nat} (hv : 0 < v) (h : 4294967295 < g ∨ u < g * v) : estN u v ≤ g - 1 := by
  unfold estN
  rcases h with h | h
  · omega
  · have : u / v < g := (Nat.div_lt_iff_lt_mul hv).2 h
    omega
/-- A dividend A = U P + l and a divisor D = V P + m: the estimate is the quotient or one more. -/
theorem est_near {A D U V P l m : Nat} (hA : A = U * P + l) (hD : D = V * P + m) (hl : l < P) (hm : m < P) (hq : A < 4294967296 * D) (hP : 4294967296 * P ≤ D) (hV : 0 < V) :
    A / D ≤ estN U V ∧ estN U V ≤ A / D + 1 := by
  have hP0 : 0 < P := by omega
  have hD0 : 0 < D := by omega
  have q1 : A / D < 4294967296 := (Nat.div_lt_iff_lt_mul hD0).2 hq
  have q2 : A / D * D ≤ A := Nat.div_mul_le_self A D
  refine ⟨?_, ?_⟩
  · have h1 : A / D * (V * P) ≤ A / D * D := Nat.mul_le_mul_left _ (by omega)
    have h2 : A / D * V * P < (U + 1) * P := by rw [Nat.mul_assoc, Nat.add_mul]; omega
    have h3 : A / D * V < U + 1 := Nat.lt_of_mul_lt_mul_right h2
    have h4 : A / D ≤ U / V := (Nat.le_div_iff_mul_le hV).2 (by omega)
    unfold estN; omega
  · have g1 : estN U V ≤ 4294967295 := by unfold estN; omega
    have g2 : estN U V * V ≤ U := Nat.le_trans (Nat.mul_le_mul_right _ (Nat.min_le_right _ _)) (Nat.div_mul_le_self U V)
    generalize estN U V = G at *
    have h1 : G * V * P ≤ U * P := Nat.mul_le_mul_right _ g2
    have h2 : G * m ≤ 4294967295 * P := Nat.mul_le_mul g1 (by omega)
    have h3 : G * D = G * V * P + G * m := by rw [hD, Nat.mul_add, Nat.mul_assoc]
    have h4 : G * D < A + D := by omega
    rcases Nat.eq_zero_or_pos G with h0 | h0
    · rw [h0]; exact Nat.zero_le _
    · have h5 : (G - 1) * D ≤ A := by rw [Nat.sub_mul, Nat.one_mul]; omega
      have := (Nat.le_div_iff_mul_le hD0).2 h5
      omega
/-- One limb of the subtraction of k times a limb. -/
theorem subm_limb {k d c a : Nat} (hk : k < 4294967296) (hd : d < 4294967296) (hc : c < 4294967296) :
    k * d + c < 18446744073709551616 - 4294967295 ∧ (k * d + c) / 4294967296 + (if a < (k * d + c) % 4294967296 then 1 else 0) < 4294967296 := by
  have h1 : k * d ≤ 4294967295 * 4294967295 := Nat.mul_le_mul (by omega) (by omega)
  refine ⟨by omega, ?_⟩
  split <;> omega
theorem subm_step {X Y V P a d c k a' c' : Nat} (h : X + c * P = V + k * Y) (ha : a + c' * 4294967296 = a' + (k * d + c)) :
    (X + P * a) + c' * (P * 4294967296) = (V + P * a') + k * (Y + P * d) := by
  have e1 : P * (a + c' * 4294967296) = P * (a' + (k * d + c)) := by rw [ha]
  simp only [Nat.mul_add] at e1 ⊢
  have e2 : P * (c' * 4294967296) = c' * (P * 4294967296) := by simp only [Nat.mul_left_comm]
  have e3 : P * (k * d) = k * (P * d) := by simp only [Nat.mul_left_comm]
  have e4 : P * c = c * P := Nat.mul_comm _ _
  omega
theorem subm_digit {a t a' c' : Nat} (hc : c' = t / 4294967296 + (if a < t % 4294967296 then 1 else 0)) (ha : a' = (a + 4294967296 - t % 4294967296) % 4294967296) (hal : a < 4294967296) : a + c' * 4294967296 = a' + t := by
  split at hc <;> omega
/-- What the subtraction of the estimate's multiple leaves: the remainder, or the remainder less the divisor, with a borrow. -/
theorem subm_end {A A0 D G q t c r B n : Nat} (hA : A = A0 + t * B) (hs : A0 + c * B = r + G * D) (hr : r < B) (hD : D ≤ B) (hq : q = A / D) (hD0 : 0 < D) (h1 : q ≤ G) (h2 : G ≤ q + 1) (_hn : n = n) :
    (¬ t < c → G = q ∧ r = A % D) ∧ (t < c → G = q + 1 ∧ r + D = A % D + B) := by
  have e := Nat.div_add_mod A D
  have hm := Nat.mod_lt A hD0
  rw [← hq] at e
  generalize A % D = m at *
  have hG : G = q ∨ G = q + 1 := by omega
  refine ⟨fun h => ?_, fun h => ?_⟩
  · rcases hG with rfl | rfl
    · refine ⟨rfl, ?_⟩
      have e2 : G * D = D * G := Nat.mul_comm _ _
      rcases Nat.lt_or_ge c t with h3 | h3
      · exfalso
        have : (c + 1) * B ≤ t * B := Nat.mul_le_mul_right _ h3
        rw [Nat.add_mul] at this
        omega
      · obtain rfl : c = t := by omega
        omega
    · exfalso
      have e2 : (q + 1) * D = D * q + D := by rw [Nat.add_mul, Nat.mul_comm]; omega
      have : c * B ≤ t * B := Nat.mul_le_mul_right _ (by omega)
      omega
  · have h3 : (t + 1) * B ≤ c * B := Nat.mul_le_mul_right _ h
    rw [Nat.add_mul] at h3
    rcases hG with rfl | rfl
    · exfalso
      have e2 : G * D = D * G := Nat.mul_comm _ _
      omega
    · refine ⟨rfl, ?_⟩
      have e2 : (q + 1) * D = D * q + D := by rw [Nat.add_mul, Nat.mul_comm]; omega
      rcases Nat.lt_or_ge (t + 1) c with h4 | h4
      · exfalso
        have : (t + 2) * B ≤ c * B := Nat.mul_le_mul_right _ h4
        rw [Nat.add_mul] at this
        omega
      · obtain rfl : c = t + 1 := by omega
        rw [Nat.add_mul] at hs
        omega
/-- The estimate's loop: what is put into the two words. -/
theorem est_test {g b1 b0 hi a0 r V U : Nat} (hV : V = b1 * 4294967296 + b0) (hU : U = hi * 4294967296 + a0) (hr : g * b1 + r = hi) : (r * 4294967296 + a0 < g * b0) ↔ U < g * V := by
  subst hV hU hr
  rw [Nat.mul_add, ← Nat.mul_assoc, Nat.add_mul]
  omega
theorem est_break {g b1 b0 hi a0 r V U : Nat} (hV : V = b1 * 4294967296 + b0) (hU : U = hi * 4294967296 + a0) (hr : g * b1 + r = hi) (h : 4294967296 ≤ r) (hg : g ≤ 4294967295) (hb : b0 < 4294967296) : g * V ≤ U := by
  subst hV hU hr
  have : g * b0 ≤ 4294967295 * 4294967295 := Nat.mul_le_mul hg (by omega)
  rw [Nat.mul_add, ← Nat.mul_assoc, Nat.add_mul]
  omega
theorem long_end {a b S v q : Nat} (hS : 0 < S) (hb : 0 < b) (h : v + b * S * q = a * S) (hv : v < b * S) : q = a / b ∧ v / S = a % b := by
  have h1 : a * S / (b * S) = q := by
    rw [← h, Nat.add_mul_div_left _ _ (Nat.mul_pos hb hS), Nat.div_eq_of_lt hv, Nat.zero_add]
  rw [Nat.mul_div_mul_right _ _ hS] at h1
  refine ⟨h1.symm, ?_⟩
  have h2 : a * S % (b * S) = v := by
    rw [← h, Nat.add_mul_mod_self_left, Nat.mod_eq_of_lt hv]
  rw [Nat.mul_mod_mul_right] at h2
  rw [← h2, Nat.mul_div_cancel _ hS]
end Go.Proofs.YtlpoboikompjfaaGreatDoor
namespace Go.Proofs.YtlpoboikompjfaaGreatDoor
open Go.RowKit
theorem est_hi {a1 a2 b1 : Nat} (h1 : a1 < 4294967296) (h2 : a2 ≤ b1) (hb : 2147483648 ≤ b1) : (a1 + 4294967296 * a2) / b1 ≤ 4294967297 := by
  have : (a1 + 4294967296 * a2) / b1 < 4294967298 := by
    rw [Nat.div_lt_iff_lt_mul (by omega)]; omega
  omega
set_option maxHeartbeats 1000000 in
theorem dlest_any (g o h o' c c' a0 a1 a2 b0 b1 : Nat) (w : World) (c0 : w.cell? ⟨g, o, none⟩ = some (.int .u32 (a0 : Int))) (c1 : w.cell? ⟨g, o + 1, none⟩ = some (.int .u32 (a1 : Int))) (c2 : w.cell? ⟨g, o + 2, none⟩ = some (.int .u32 (a2 : Int)))
    (d0 : w.cell? ⟨h, o', none⟩ = some (.int .u32 (b0 : Int))) (d1 : w.cell? ⟨h, o' + 1, none⟩ = some (.int .u32 (b1 : Int))) (ha0 : a0 < 4294967296) (ha1 : a1 < 4294967296) (ha2 : a2 ≤ b1) (hb0 : b0 < 4294967296) (hb1 : 2147483648 ≤ b1) (hb1' : b1 < 4294967296) :
    Calls Tryz.prog 158 #[.slice (some ⟨g, o, none⟩) 3 c, .slice (some ⟨h, o', none⟩) 2 c'] w fun e w' => e = .returned (.int .u64 ((estN ((a1 + 4294967296 * a2) * 4294967296 + a0) (b1 * 4294967296 + b0) : Nat) : Int)) ∧ Drawn w w' := by
  obtain ⟨hi, hhi⟩ : ∃ hi, hi = a1 + 4294967296 * a2 := ⟨_, rfl⟩
  have e1 : bits BinOp.or IntKind.u64 ((a2 : Int) * 4294967296) (a1 : Int) = (hi : Int) := by rw [or_limbs a1 a2 ha1 (by omega), hhi]
  have w1 : IntKind.u64.wrap ((a2 : Int) * 4294967296) = (a2 : Int) * 4294967296 := by rw [IntKind.wrap_u64]; omega
  have b1z : ((b1 : Int) == 0) = false := by simp; omega
  have hq := est_hi ha1 ha2 hb1
  rw [← hhi] at hq ⊢
  have hhl : hi < 18446744073709551616 := by omega
  have hdm := Nat.div_add_mod hi b1
  have hml := Nat.mod_lt hi (show 0 < b1 by omega)
  have hE : estN (hi * 4294967296 + a0) (b1 * 4294967296 + b0) ≤ hi / b1 := by
    unfold estN
    refine Nat.le_trans (Nat.min_le_right _ _) ?_
    have : (hi * 4294967296 + a0) / (b1 * 4294967296 + b0) < hi / b1 + 1 := by
      rw [Nat.div_lt_iff_lt_mul (by omega), Nat.add_mul, Nat.mul_add, ← Nat.mul_assoc, Nat.mul_comm (hi / b1) b1, Nat.one_mul]
      omega
    omega
  obtain ⟨E, hEd⟩ : ∃ E, E = estN (hi * 4294967296 + a0) (b1 * 4294967296 + b0) := ⟨_, rfl⟩
  rw [← hEd] at hE ⊢
  have e2 : (hi : Int) / (b1 : Int) = ((hi / b1 : Nat) : Int) := rfl
  have e3 : (hi : Int) % (b1 : Int) = ((hi % b1 : Nat) : Int) := rfl
  have e4 : (hi : Int).tmod (b1 : Int) = ((hi % b1 : Nat) : Int) := rfl
  have e5 : (hi : Int).tdiv (b1 : Int) = ((hi / b1 : Nat) : Int) := rfl
  generalize hi / b1 = Q at *
  generalize hi % b1 = R at *
  have w2 : IntKind.u64.wrap (Q : Int) = (Q : Int) := by rw [IntKind.wrap_u64]; omega
  have HED := Lib.hid hEd
  have HHI := Lib.hid hhi
  have HDM := Lib.hid hdm
  clear hEd hhi hdm
  go_enter Tryz.func158, Tryz.ntmps158
  go_wp2
  go_quiet (fail)
  go_wp2
  go_quiet (fail)
  clear w1 w2 e1 e2 e3 e4 e5
  go_wp2
  go_loopw [6, 7] (fun s6 s7 wr => ∃ G r : Nat, s6 = .int .u64 G ∧ s7 = .int .u64 r ∧ r < 4294967296 ∧ G ≤ 4294967297 ∧ E ≤ G ∧ Hid (G * b1 + r = hi) ∧ Drawn w wr) (fun s6 _ _ => (intOf s6).toNat)
  case atStart => exact ⟨Q, R, rfl, rfl, by omega, hq, hE, by rw [Hid, Nat.mul_comm]; exact HDM.out, ((Drawn.refl w).drewN _).drewN _⟩
  case round =>
    obtain ⟨G, r, rfl, rfl, hr, hG, hEG, hgr, hdr⟩ := hrel
    have k0 := hdr.cell ⟨g, o, none⟩
    have k1 := hdr.cell ⟨h, o', none⟩
    have k2 := hdr.cell ⟨h, o' + 1, none⟩
    rw [c0] at k0
    rw [d0] at k1
    rw [d1] at k2
    have hV : b1 * 4294967296 + b0 = b1 * 4294967296 + b0 := rfl
    have down : (4294967295 < G ∨ hi * 4294967296 + a0 < G * (b1 * 4294967296 + b0)) → 1 ≤ G ∧ E ≤ G - 1 ∧ (G - 1) * b1 + (r + b1) = hi ∧ (4294967295 < r + b1 → E = G - 1) := by
      intro h
      have h1 : 1 ≤ G := by
        rcases h with h | h
        · omega
        · rcases Nat.eq_zero_or_pos G with h0 | h0
          · rw [h0, Nat.zero_mul] at h; omega
          · exact h0
      have h2 : E ≤ G - 1 := by rw [HED.out]; exact estN_lt (by omega) h
      have h3 : (G - 1) * b1 + (r + b1) = hi := by
        have e : G * b1 = (G - 1) * b1 + b1 := by rw [Nat.sub_mul, Nat.one_mul, Nat.sub_add_cancel (Nat.le_mul_of_pos_left _ h1)]
        have := hgr.out
        omega
      refine ⟨h1, h2, h3, fun h4 => ?_⟩
      have h5 : G - 1 ≤ 4294967295 := by
        rcases Nat.lt_or_ge 4294967296 G with h6 | h6
        · exfalso
          have h7 : 4294967296 * b1 ≤ (G - 1) * b1 := Nat.mul_le_mul_right _ (by omega)
          have := HHI.out
          omega
        · omega
      have h6 := est_break (g := G - 1) (b0 := b0) (a0 := a0) hV rfl h3 (by omega) h5 hb0
      have h7 := HED.out
      rw [h7] at h2 ⊢
      exact (estN_of (by omega) h5 h6 h2).symm
    have HDN := Lib.hid down
    clear down hV
    by_cases hc : 4294967295 < G
    · have f1 : decide (4294967295 < (G : Int)) = true := by simp; omega
      obtain ⟨h1, h2, h3, h4⟩ := HDN.out (.inl hc)
      have H3 := Lib.hid h3
      have H4 := Lib.hid h4
      clear h3 h4
      go_wp2
      go_quiet (fail)
      by_cases hb : 4294967295 < r + b1
      · have hb' : (4294967295 : Int) < (r : Int) + b1 := by omega
        go_wp2
        go_ret
        exact ⟨retI (by have := H4.out hb; omega), hdr.drewN _⟩
      · have hb' : ¬ (4294967295 : Int) < (r : Int) + b1 := by omega
        go_wp2
        exact ⟨⟨G - 1, r + b1, by go_num, by go_num, by omega, by omega, h2, H3, hdr.drewN _⟩, by simp [intOf]; omega⟩
    · have f1 : decide (4294967295 < (G : Int)) = false := by simp; omega
      obtain ⟨p, hp⟩ : ∃ p, p = G * b0 := ⟨_, rfl⟩
      have hpl : p ≤ 4294967295 * 4294967295 := by rw [hp]; exact Nat.mul_le_mul (by omega) (by omega)
      have hpe : (G : Int) * (b0 : Int) = (p : Int) := by rw [hp]; exact (Int.natCast_mul G b0).symm
      have w1 : IntKind.u64.wrap (p : Int) = (p : Int) := by rw [IntKind.wrap_u64]; omega
      have w2 : IntKind.u64.wrap ((r : Int) * 4294967296) = (r : Int) * 4294967296 := by rw [IntKind.wrap_u64]; omega
      have e1 := or_limbs a0 r ha0 hr
      obtain ⟨t, ht⟩ : ∃ t, t = a0 + 4294967296 * r := ⟨_, rfl⟩
      rw [← ht] at e1
      have htest := est_test (V := b1 * 4294967296 + b0) (a0 := a0) rfl rfl hgr.out
      rw [← hp, show r * 4294967296 + a0 = t by omega] at htest
      have HTT := Lib.hid htest
      have HP := Lib.hid hp
      have HT := Lib.hid ht
      clear htest hp ht
      by_cases hu : t < p
      · have f2 : decide ((t : Int) < (p : Int)) = true := by simp; omega
        obtain ⟨h1, h2, h3, h4⟩ := HDN.out (.inr (HTT.out.1 hu))
        have H3 := Lib.hid h3
        have H4 := Lib.hid h4
        clear h3 h4
        go_wp2
        go_quiet (fail)
        clear w1 w2 e1
        by_cases hb : 4294967295 < r + b1
        · have hb' : (4294967295 : Int) < (r : Int) + b1 := by omega
          go_wp2
          go_ret
          exact ⟨retI (by have := H4.out hb; omega), hdr.drewN _⟩
        · have hb' : ¬ (4294967295 : Int) < (r : Int) + b1 := by omega
          go_wp2
          exact ⟨⟨G - 1, r + b1, by go_num, by go_num, by omega, by omega, h2, H3, hdr.drewN _⟩, by simp [intOf]; omega⟩
      · have f2 : decide ((t : Int) < (p : Int)) = false := by simp; omega
        have hE2 : G = E := by
          have h5 : G * (b1 * 4294967296 + b0) ≤ hi * 4294967296 + a0 := by
            rcases Nat.lt_or_ge (hi * 4294967296 + a0) (G * (b1 * 4294967296 + b0)) with h | h
            · exact absurd (HTT.out.2 h) hu
            · exact h
          have h7 := HED.out
          rw [h7] at hEG ⊢
          exact estN_of (by omega) (by omega) h5 hEG
        have HE2 := Lib.hid hE2
        clear hE2
        go_wp2
        go_quiet (fail)
        clear w1 w2 e1
        go_wp2
        go_ret
        exact ⟨retI (by rw [HE2.out]), hdr.drewN _⟩
end Go.Proofs.YtlpoboikompjfaaGreatDoor
namespace Go.Proofs.YtlpoboikompjfaaGreatDoor
open Go.RowKit
theorem only_set {w wr : World} {g k : Nat} (h : w.grownBy wr (some g)) (u : Nat) : w.grownBy (wr.setCell ⟨g, k, none⟩ (.int .u32 (u : Int))) (some g) :=
  ⟨h.os, h.tape, h.output, by simpa [World.setCell] using h.size, fun i hi hne => (Below.heap_setCell wr _ _ i (by rintro rfl; exact hne rfl)).trans (h.block i hi hne)⟩
theorem getD_left {k : Nat} (xs ys : List Nat) (h : k < xs.length) : (xs ++ ys).getD k 0 = xs.getD k 0 := by
  rw [List.getD_eq_getElem?_getD, List.getElem?_append_left h, ← List.getD_eq_getElem?_getD]
set_option maxHeartbeats 1000000 in
theorem divIn_any (g n c d : Nat) (xs tl : List Nat) (w : World) (hR : Row w g (xs ++ tl)) (hL : Limbs xs) (hl : xs.length = n) (_hnc : n ≤ c) (hn : n ≤ 1000000) (hd : 0 < d) (hdl : d < 4294967296) :
    Calls Tryz.prog 129 #[.slice (some ⟨g, 0, none⟩) n c, .int .u32 (d : Int)] w fun e w' => ∃ ys, e = .returned (.int .u32 ((val xs % d : Nat) : Int)) ∧ Row w' g (ys ++ tl) ∧ Limbs ys ∧ ys.length = n ∧ val ys = val xs / d ∧ w.grownBy w' (some g) := by
  have b1 : ((d : Int) == 0) = false := by simp; omega
  have HL := Lib.hid hl
  clear hl
  go_enter Tryz.func129, Tryz.ntmps129
  go_wp2
  go_loopw [5, 6] (fun re i wr => ∃ (k : Int) (r : Nat) (ys : List Nat), -1 ≤ k ∧ k < n ∧ i = .int .i64 k ∧ re = .int .u64 r ∧ r < d ∧ Row wr g (ys ++ tl) ∧ Limbs ys ∧ Hid (ys.length = n) ∧ Hid (ys.take (k + 1).toNat = xs.take (k + 1).toNat) ∧ Hid (val (xs.drop (k + 1).toNat) = val (ys.drop (k + 1).toNat) * d + r) ∧ w.grownBy wr (some g)) (fun _ i _ => (intOf i + 1).toNat)
  case atStart =>
    refine ⟨n - 1, 0, xs, by omega, by omega, rfl, rfl, hd, hR, hL, HL.out, rfl, ?_, World.grownBy.refl w _⟩
    rw [Hid, show ((n : Int) - 1 + 1).toNat = n by omega, List.drop_of_length_le (by rw [HL.out]; exact Nat.le_refl _)]; simp [val]
  case round =>
    obtain ⟨k, r, ys, hk, hkn, rfl, rfl, hr, hRy, hLy, hly, htk, hv, hgb⟩ := hrel
    by_cases h0 : 0 ≤ k
    · obtain ⟨k, rfl⟩ := Int.eq_ofNat_of_zero_le h0
      obtain ⟨x, hx⟩ : ∃ x, x = ys.getD k 0 := ⟨_, rfl⟩
      have hc := hRy.cell (k := k) (by rw [List.length_append, hly.out]; omega)
      rw [getD_left _ _ (by rw [hly.out]; omega)] at hc
      have hf := hRy.frozen k
      have hxl : x < 4294967296 := by
        rw [hx, List.getD_eq_getElem?_getD, List.getElem?_eq_getElem (by rw [hly.out]; omega)]
        exact hLy _ (List.getElem_mem _)
      rw [← hx] at hc
      have HX := Lib.hid hx
      clear hx
      go_wp2
      have e1 : bits BinOp.or IntKind.u64 ((r : Int) * 4294967296) (x : Int) = ((x + 4294967296 * r : Nat) : Int) := or_limbs x r hxl (by omega)
      rw [e1]
      obtain ⟨t, ht⟩ : ∃ t, t = x + 4294967296 * r := ⟨_, rfl⟩
      rw [← ht]
      have e2 : ((t : Int)).tmod (d : Int) = ((t % d : Nat) : Int) := rfl
      have e3 : ((t : Int)).tdiv (d : Int) = ((t / d : Nat) : Int) := rfl
      have hv1 : t / d < 4294967296 := by
        rw [Nat.div_lt_iff_lt_mul hd, ht]
        have : 4294967296 * (r + 1) ≤ 4294967296 * d := Nat.mul_le_mul_left _ hr
        omega
      have hm := Nat.mod_lt t hd
      have htd := Nat.div_add_mod t d
      rw [e2, e3]
      generalize t / d = v at *
      generalize t % d = r' at *
      have e4 : IntKind.u64.wrap (v : Int) % 4294967296 = (v : Int) := by rw [IntKind.wrap_u64]; omega
      rw [e4]
      have htk' := htk.out
      have hv' := hv.out
      rw [show ((k : Int) + 1).toNat = k + 1 by omega] at htk' hv'
      have hxx : x = xs.getD k 0 := by
        rw [HX.out, ← getD_take (xs := ys) (k := k + 1) (Nat.lt_succ_self k), htk', getD_take (Nat.lt_succ_self k)]
      refine ⟨⟨(k : Int) - 1, r', ys.set k v, by omega, by omega, rfl, rfl, hm, by rw [← List.set_append_left _ _ (by rw [hly.out]; omega)]; exact hRy.set _ _, limbs_set hLy _ hv1, by rw [Hid, List.length_set]; exact hly.out, ?_, ?_, ?_⟩, by show ((k : Int) - 1 + 1).toNat < ((k : Int) + 1).toNat; omega⟩
      · rw [Hid, show ((k : Int) - 1 + 1).toNat = k by omega, List.take_set_of_le (Nat.le_refl k)]
        have := congrArg (List.take k) htk'
        rw [List.take_take, List.take_take, Nat.min_eq_left (by omega)] at this
        exact this
      · rw [Hid, show ((k : Int) - 1 + 1).toNat = k by omega, val_set_drop (by rw [hly.out]; omega), val_drop_cons (xs := xs) (k := k) (by rw [HL.out]; omega), hv', ← hxx, Nat.add_mul, Nat.mul_add]
        rw [Nat.mul_comm d v] at htd
        rw [← Nat.mul_assoc]
        omega
      · exact only_set hgb v
    · obtain rfl : k = -1 := by omega
      go_wp2
      go_ret
      have hv' := hv.out
      rw [show ((-1 : Int) + 1).toNat = 0 from rfl, List.drop_zero, List.drop_zero] at hv'
      refine ⟨retI ?_, ys, hRy, hLy, hly.out, ?_, hgb⟩
      · rw [← Int.natCast_emod, hv', Nat.mul_comm, Nat.mul_add_mod, Nat.mod_eq_of_lt hr]
      · rw [hv', Nat.mul_comm, Nat.mul_add_div hd, Nat.div_eq_of_lt hr, Nat.add_zero]
end Go.Proofs.YtlpoboikompjfaaGreatDoor
namespace Go.Proofs.YtlpoboikompjfaaGreatDoor
open Go.RowKit
theorem getD_mid (pre xs tl : List Nat) (i k : Nat) (hi : pre.length = i) (h : k < xs.length) : (pre ++ (xs ++ tl)).getD (i + k) 0 = xs.getD k 0 := by
  subst hi
  rw [List.getD_eq_getElem?_getD, List.getElem?_append_right (by omega), Nat.add_sub_cancel_left, List.getElem?_append_left h, ← List.getD_eq_getElem?_getD]
theorem getD_tl (pre xs tl : List Nat) (i n : Nat) (hi : pre.length = i) (h : xs.length = n) : (pre ++ (xs ++ tl)).getD (i + n) 0 = tl.getD 0 0 := by
  subst hi h
  rw [List.getD_eq_getElem?_getD, List.getElem?_append_right (by omega), Nat.add_sub_cancel_left, List.getElem?_append_right (Nat.le_refl _), Nat.sub_self, ← List.getD_eq_getElem?_getD]
theorem set_mid (pre xs tl : List Nat) (i k v : Nat) (hi : pre.length = i) (h : k < xs.length) : (pre ++ (xs ++ tl)).set (i + k) v = pre ++ (xs.set k v ++ tl) := by
  subst hi
  rw [List.set_append_right _ _ (by omega), Nat.add_sub_cancel_left, List.set_append_left _ _ h]
theorem getD_lt {xs : List Nat} (hL : Limbs xs) (k : Nat) : xs.getD k 0 < 4294967296 := by
  rw [List.getD_eq_getElem?_getD]
  rcases Nat.lt_or_ge k xs.length with h | h
  · rw [List.getElem?_eq_getElem h]; exact hL _ (List.getElem_mem _)
  · rw [List.getElem?_eq_none h]; exact Nat.zero_lt_succ _
theorem Row.grown {w w' : World} {g h : Nat} {xs : List Nat} (hR : Row w h xs) (hg : w.grownBy w' (some g)) (hne : h ≠ g) : Row w' h xs :=
  (hg.block h hR.lt (fun e => hne (by cases e; rfl))).trans hR
/-- What subtractMultiple leaves. -/
def SubRes (w : World) (g n k : Nat) (pre xs tl ds : List Nat) (e : Ending) (w' : World) : Prop :=
  ∃ ys cr, e = .returned (.bool (decide (tl.getD 0 0 < cr))) ∧ Row w' g (pre ++ (ys ++ tl)) ∧ Limbs ys ∧ ys.length = n ∧ val xs + cr * 4294967296 ^ n = val ys + k * val ds ∧ w.grownBy w' (some g)
set_option maxHeartbeats 1000000 in
theorem subm_any (g h i n c c' k : Nat) (pre xs tl ds dt : List Nat) (w : World) (hR : Row w g (pre ++ (xs ++ tl))) (hD : Row w h (ds ++ dt)) (hne : h ≠ g) (hi : pre.length = i) (hxn : xs.length = n) (hdn : ds.length = n) (hLx : Limbs xs) (hLd : Limbs ds) (hLt : Limbs tl) (ht : 0 < tl.length) (hn : n ≤ 1000000) (_hil : i ≤ 1000000) (hk : k < 4294967296) :
    Calls Tryz.prog 159 #[.slice (some ⟨g, i, none⟩) (n + 1) c, .slice (some ⟨h, 0, none⟩) n c', .int .u64 (k : Int)] w (SubRes w g n k pre xs tl ds) := by
  have HI := Lib.hid hi
  have HX := Lib.hid hxn
  have HD := Lib.hid hdn
  clear hi hxn hdn
  go_enter Tryz.func159, Tryz.ntmps159
  go_wp2
  go_loopw [8, 14] (fun cr i' wr => ∃ j q : Nat, ∃ ys : List Nat, j ≤ n ∧ i' = .int .i64 j ∧ cr = .int .u64 q ∧ q < 4294967296 ∧ Row wr g (pre ++ (ys ++ tl)) ∧ Limbs ys ∧ Hid (ys.length = n) ∧ Hid (ys.drop j = xs.drop j) ∧ Hid (val (xs.take j) + q * 4294967296 ^ j = val (ys.take j) + k * val (ds.take j)) ∧ w.grownBy wr (some g)) (fun _ i' _ => n - (intOf i').toNat)
  case atStart => exact ⟨0, 0, xs, by omega, rfl, rfl, by omega, hR, hLx, HX.out, rfl, by simp [Hid, val], World.grownBy.refl w _⟩
  case round =>
    obtain ⟨j, q, ys, hj, rfl, rfl, hq, hRy, hLy, hly, hdr, hv, hgb⟩ := hrel
    have hDw := hD.grown hgb hne
    by_cases hjn : j < n
    · obtain ⟨a, ha⟩ : ∃ a, a = ys.getD j 0 := ⟨_, rfl⟩
      obtain ⟨d, hd⟩ : ∃ d, d = ds.getD j 0 := ⟨_, rfl⟩
      have hca := hRy.cell (k := i + j) (by rw [List.length_append, List.length_append, HI.out, hly.out]; omega)
      rw [getD_mid _ _ _ _ _ HI.out (by rw [hly.out]; omega), ← ha] at hca
      have hcd := hDw.cell (k := j) (by rw [List.length_append, HD.out]; omega)
      rw [getD_left _ _ (by rw [HD.out]; omega), ← hd] at hcd
      have hfr := hRy.frozen (i + j)
      have hal : a < 4294967296 := by rw [ha]; exact getD_lt hLy j
      have hdl : d < 4294967296 := by rw [hd]; exact getD_lt hLd j
      have hlim := subm_limb (a := a) hk hdl hq
      obtain ⟨p, hp⟩ : ∃ p, p = k * d := ⟨_, rfl⟩
      rw [← hp] at hlim
      obtain ⟨hl1, hl2⟩ := hlim
      have hkd : (k : Int) * (d : Int) = (p : Int) := by rw [hp]; exact (Int.natCast_mul k d).symm
      have w1 : IntKind.u64.wrap (p : Int) = (p : Int) := by rw [IntKind.wrap_u64]; omega
      have w2 : IntKind.u64.wrap ((q : Int) + p) = ((p + q : Nat) : Int) := by rw [IntKind.wrap_u64]; omega
      have HA := Lib.hid ha
      have HDD := Lib.hid hd
      have HP := Lib.hid hp
      clear ha hd hp
      obtain ⟨t, ht'⟩ : ∃ t, t = p + q := ⟨_, rfl⟩
      rw [← ht'] at w2 hl1 hl2
      have HT := Lib.hid ht'
      clear ht'
      have hxa : a = xs.getD j 0 := by
        have e := congrArg (fun l => List.getD l 0 0) hdr.out
        simp only [getD_drop, Nat.add_zero] at e
        rw [HA.out, e]
      have HXA := Lib.hid hxa
      clear hxa
      have key : ∀ a' c'' : Nat, a' < 4294967296 → a + c'' * 4294967296 = a' + t → Limbs (ys.set j a') ∧ Hid ((ys.set j a').length = n) ∧ Hid ((ys.set j a').drop (j + 1) = xs.drop (j + 1)) ∧
          Hid (val (xs.take (j + 1)) + c'' * 4294967296 ^ (j + 1) = val ((ys.set j a').take (j + 1)) + k * val (ds.take (j + 1))) := by
        intro a' c'' h1 h2
        refine ⟨limbs_set hLy _ h1, by rw [Hid, List.length_set]; exact hly.out, ?_, ?_⟩
        · rw [Hid, List.drop_set_of_lt (Nat.lt_succ_self j)]
          have e := congrArg (List.drop 1) hdr.out
          rwa [List.drop_drop, List.drop_drop] at e
        · rw [Hid, val_take_succ xs, val_take_succ ds, val_set_take ys j _ (by rw [hly.out]; omega), ← HXA.out, ← HDD.out, Nat.pow_succ]
          exact subm_step hv.out (by rw [h2, HT.out, HP.out])
      have hset : ∀ (a' : Nat) (z : Int), z = (a' : Int) → Row (wr.setCell ⟨g, i + j, none⟩ (.int .u32 z)) g (pre ++ (ys.set j a' ++ tl)) := by
        rintro a' z rfl
        have := hRy.set (i + j) a'
        rwa [set_mid _ _ _ _ _ _ HI.out (by rw [hly.out]; omega)] at this
      have hgs : ∀ z : Int, w.grownBy (wr.setCell ⟨g, i + j, none⟩ (.int .u32 z)) (some g) := fun z =>
        ⟨hgb.os, hgb.tape, hgb.output, by simpa [World.setCell] using hgb.size, fun i hi hne => (Below.heap_setCell wr _ _ i (by rintro rfl; exact hne rfl)).trans (hgb.block i hi hne)⟩
      have HK := Lib.hid key
      have HS := Lib.hid hset
      clear key hset
      by_cases hlt : a < t % 4294967296
      · have hlt' : (a : Int) < (t : Int) % 4294967296 := by omega
        rw [if_pos hlt] at hl2
        obtain ⟨k1, k2, k3, k4⟩ := HK.out ((a + 4294967296 - t % 4294967296) % 4294967296) (t / 4294967296 + 1) (by omega) (by omega)
        go_wp2
        exact ⟨⟨j + 1, t / 4294967296 + 1, _, by omega, by go_num, by go_num, by omega, HS.out _ _ (by omega), k1, k2, k3, k4, hgs _⟩, by simp [intOf]; omega⟩
      · have hlt' : ¬ (a : Int) < (t : Int) % 4294967296 := by omega
        rw [if_neg hlt] at hl2
        obtain ⟨k1, k2, k3, k4⟩ := HK.out ((a + 4294967296 - t % 4294967296) % 4294967296) (t / 4294967296) (by omega) (by omega)
        go_wp2
        exact ⟨⟨j + 1, t / 4294967296, _, by omega, by go_num, by go_num, by omega, HS.out _ _ (by omega), k1, k2, k3, k4, hgs _⟩, by simp [intOf]; omega⟩
    · obtain rfl : j = n := by omega
      obtain ⟨t, ht'⟩ : ∃ t, t = tl.getD 0 0 := ⟨_, rfl⟩
      have hct := hRy.cell (k := i + j) (by rw [List.length_append, List.length_append, HI.out, hly.out]; omega)
      rw [getD_tl _ _ _ _ _ HI.out hly.out, ← ht'] at hct
      have htl : t < 4294967296 := by rw [ht']; exact getD_lt hLt 0
      have HT := Lib.hid ht'
      clear ht'
      have hv' := Lib.hid hv.out
      go_wp2
      go_ret
      refine ⟨ys, q, ?_, hRy, hLy, hly.out, ?_, hgb⟩
      · rw [← HT.out]; exact retB (by simp)
      · have h1 := hv.out
        rwa [List.take_of_length_le (by rw [HX.out]; exact Nat.le_refl _), List.take_of_length_le (by rw [hly.out]; exact Nat.le_refl _), List.take_of_length_le (by rw [HD.out]; exact Nat.le_refl _)] at h1
/-- What addBack leaves. -/
def AddRes (w : World) (g n : Nat) (pre xs tl ds : List Nat) (e : Ending) (w' : World) : Prop :=
  ∃ ys cr, e = .returned (.tuple #[]) ∧ Row w' g (pre ++ (ys ++ tl)) ∧ Limbs ys ∧ ys.length = n ∧ val xs + val ds = val ys + cr * 4294967296 ^ n ∧ w.grownBy w' (some g)
set_option maxHeartbeats 1000000 in
theorem addBack_any (g h i n c c' : Nat) (pre xs tl ds dt : List Nat) (w : World) (hR : Row w g (pre ++ (xs ++ tl))) (hD : Row w h (ds ++ dt)) (hne : h ≠ g) (hi : pre.length = i) (hxn : xs.length = n) (hdn : ds.length = n) (hLx : Limbs xs) (hLd : Limbs ds) (hn : n ≤ 1000000) (_hil : i ≤ 1000000) :
    Calls Tryz.prog 160 #[.slice (some ⟨g, i, none⟩) n c, .slice (some ⟨h, 0, none⟩) n c'] w (AddRes w g n pre xs tl ds) := by
  have HI := Lib.hid hi
  have HX := Lib.hid hxn
  have HD := Lib.hid hdn
  clear hi hxn hdn
  go_enter Tryz.func160, Tryz.ntmps160
  go_wp2
  go_loopw [4, 8] (fun cr i' wr => ∃ j q : Nat, ∃ ys : List Nat, j ≤ n ∧ i' = .int .i64 j ∧ cr = .int .u64 q ∧ q ≤ 1 ∧ Row wr g (pre ++ (ys ++ tl)) ∧ Limbs ys ∧ Hid (ys.length = n) ∧ Hid (ys.drop j = xs.drop j) ∧ Hid (val (xs.take j) + val (ds.take j) = val (ys.take j) + q * 4294967296 ^ j) ∧ w.grownBy wr (some g)) (fun _ i' _ => n - (intOf i').toNat)
  case atStart => exact ⟨0, 0, xs, by omega, rfl, rfl, by omega, hR, hLx, HX.out, rfl, by simp [Hid, val], World.grownBy.refl w _⟩
  case round =>
    obtain ⟨j, q, ys, hj, rfl, rfl, hq, hRy, hLy, hly, hdr, hv, hgb⟩ := hrel
    have hDw := hD.grown hgb hne
    by_cases hjn : j < n
    · obtain ⟨a, ha⟩ : ∃ a, a = ys.getD j 0 := ⟨_, rfl⟩
      obtain ⟨d, hd⟩ : ∃ d, d = ds.getD j 0 := ⟨_, rfl⟩
      have hca := hRy.cell (k := i + j) (by rw [List.length_append, List.length_append, HI.out, hly.out]; omega)
      rw [getD_mid _ _ _ _ _ HI.out (by rw [hly.out]; omega), ← ha] at hca
      have hcd := hDw.cell (k := j) (by rw [List.length_append, HD.out]; omega)
      rw [getD_left _ _ (by rw [HD.out]; omega), ← hd] at hcd
      have hfr := hRy.frozen (i + j)
      have hal : a < 4294967296 := by rw [ha]; exact getD_lt hLy j
      have hdl : d < 4294967296 := by rw [hd]; exact getD_lt hLd j
      have HA := Lib.hid ha
      have HDD := Lib.hid hd
      clear ha hd
      have hxa : a = xs.getD j 0 := by
        have e := congrArg (fun l => List.getD l 0 0) hdr.out
        simp only [getD_drop, Nat.add_zero] at e
        rw [HA.out, e]
      have HXA := Lib.hid hxa
      clear hxa
      obtain ⟨t, ht⟩ : ∃ t, t = a + q + d := ⟨_, rfl⟩
      have hset : ∀ (m : Nat) (z : Int), z = ((t % 4294967296 : Nat) : Int) → Row ((wr.drewN m).setCell ⟨g, i + j, none⟩ (.int .u32 z)) g (pre ++ (ys.set j (t % 4294967296) ++ tl)) := by
        rintro m z rfl
        have := (hRy.drewN m).set (i + j) (t % 4294967296)
        rwa [set_mid _ _ _ _ _ _ HI.out (by rw [hly.out]; omega)] at this
      have hgs : ∀ (m : Nat) (z : Int), w.grownBy ((wr.drewN m).setCell ⟨g, i + j, none⟩ (.int .u32 z)) (some g) := fun m z =>
        ⟨hgb.os, hgb.tape, hgb.output, by simpa [World.setCell] using hgb.size, fun i hi hne => (Below.heap_setCell (wr.drewN m) _ _ i (by rintro rfl; exact hne rfl)).trans (hgb.block i hi hne)⟩
      have HS := Lib.hid hset
      have w1 : IntKind.u64.wrap ((a : Int) + d) = (a : Int) + d := by rw [IntKind.wrap_u64]; omega
      have w2 : IntKind.u64.wrap ((q : Int) + ((a : Int) + d)) = (t : Int) := by rw [IntKind.wrap_u64]; omega
      have htl : t < 8589934592 := by omega
      have HT := Lib.hid ht
      clear hset ht
      go_wp2
      go_quiet (fail)
      clear w1 w2
      go_wp2
      refine ⟨⟨j + 1, t / 4294967296, ys.set j (t % 4294967296), by omega, by go_num, by go_num, by omega, HS.out _ _ (by omega), limbs_set hLy _ (by omega), by rw [Hid, List.length_set]; exact hly.out, ?_, ?_, hgs _ _⟩, by simp [intOf]; omega⟩
      · rw [Hid, List.drop_set_of_lt (Nat.lt_succ_self j)]
        have e := congrArg (List.drop 1) hdr.out
        rwa [List.drop_drop, List.drop_drop] at e
      · rw [Hid, val_take_succ xs, val_take_succ ds, val_set_take ys j _ (by rw [hly.out]; omega), ← HXA.out, ← HDD.out, Nat.pow_succ]
        exact sum_step hv.out HT.out
    · obtain rfl : j = n := by omega
      go_wp2
      refine bodyPost_ret (v := .tuple #[]) (by simp [results, Tryz.results160, go_sem]) rfl ?_
      refine ⟨ys, q, rfl, hRy, hLy, hly.out, ?_, hgb⟩
      have h1 := hv.out
      rwa [List.take_of_length_le (by rw [HX.out]; exact Nat.le_refl _), List.take_of_length_le (by rw [HD.out]; exact Nat.le_refl _), List.take_of_length_le (by rw [hly.out]; exact Nat.le_refl _)] at h1
end Go.Proofs.YtlpoboikompjfaaGreatDoor
