/- Contract of torsionref01.Read for at most 100 bytes. -/
import Derived.Test.YtnlmdjbakcjhbaaDoorVG9DivMod
import Derived.Test.YtnlmdjbakcjhbaaDoorVRDM
import Derived.Test.YtnlmdjbakcjhbaaDoorVG24Sz
namespace Go.Proofs.YtnlmdjbakcjhbaaDoor
open Go.RowKit
theorem dec_lt' (s : ByteArray) : ∀ k, k ≤ s.size → (∀ j (h : j < s.size), j < k → 48 ≤ s[j].toNat ∧ s[j].toNat ≤ 57) → dec (s.toList.take k) < 10 ^ k
  | 0, _, _ => by simp [dec]
  | k + 1, h, hd => by
    rw [dec_take s k h]
    have := dec_lt' s k (by omega) (fun j h1 h2 => hd j h1 (by omega))
    have h2 := hd k h (by omega)
    rw [Nat.pow_succ]
    omega
theorem neg_yes (s : ByteArray) (h : 0 < s.size) (h45 : s[0].toNat = 45) : negOf s = true ∧ digOf s = s.extract 1 s.size := by
  have hc : s[0] = 45 := UInt8.toNat_inj.1 h45
  obtain ⟨x, l, hl⟩ : ∃ x l, s.data.toList = x :: l := by
    cases hq : s.data.toList with
    | nil => exact absurd (by rw [Lib.size_eq, hq]; rfl) (Nat.ne_of_gt h)
    | cons x l => exact ⟨x, l, rfl⟩
  have hx : x = 45 := by
    have := toL_get s 0 h
    rw [ByteArray.toList_eq, hl] at this
    simpa [hc] using this
  subst hx
  have hp : negOf s = true := by unfold negOf Lib.hasPrefix; rw [hl]; simp
  refine ⟨hp, ?_⟩
  unfold digOf Lib.trimPrefix
  unfold negOf at hp
  rw [if_pos hp]
  apply ByteArray.ext
  rw [ByteArray.data_extract]
  apply Array.toList_inj.1
  rw [Array.toList_extract, List.extract_eq_take_drop, hl]
  simp [Lib.size_eq, hl]
theorem neg_no (s : ByteArray) (h : ∀ h : 0 < s.size, s[0].toNat ≠ 45) : negOf s = false ∧ digOf s = s := by
  have hp : negOf s = false := by
    unfold negOf Lib.hasPrefix
    cases hq : s.data.toList with
    | nil => rfl
    | cons x l =>
      have h0 : 0 < s.size := by rw [Lib.size_eq, hq]; simp
      have := toL_get s 0 h0
      rw [ByteArray.toList_eq, hq] at this
      have hx : x = s[0] := by simpa using this
      have hn : x ≠ 45 := fun e => h h0 (by rw [← hx, e]; rfl)
      simp only [List.isPrefixOf, Bool.and_true]
      simpa using fun e => hn e.symm
  refine ⟨hp, ?_⟩
  unfold digOf Lib.trimPrefix
  unfold negOf at hp
  rw [if_neg (by rw [hp]; simp)]
/-- What the reference's Read asks of the digits. -/
theorem ok_iff (s : ByteArray) : readOk s ↔ 0 < (digOf s).size ∧ allDig (digOf s) ∧ ¬ (∃ h : 0 < (digOf s).size, (digOf s)[0].toNat = 48 ∧ (negOf s = true ∨ 1 < (digOf s).size)) := by
  unfold readOk numOk
  generalize digOf s = D
  generalize negOf s = B
  have one : D.toList = [48] ↔ (D.size = 1 ∧ ∃ h : 0 < D.size, D[0].toNat = 48) := by
    constructor
    · intro e
      have h1 := toL_len D
      rw [e] at h1
      have h0 : 0 < D.size := by rw [← h1]; decide
      refine ⟨h1.symm, h0, ?_⟩
      have := toL_get D 0 h0
      rw [e] at this
      have hx : D[0] = 48 := by simpa using this.symm
      rw [hx]; rfl
    · rintro ⟨h1, h0, h2⟩
      have hx : D[0] = 48 := UInt8.toNat_inj.1 h2
      have ht := take_snoc D 0 h0
      rw [hx] at ht
      have hl := toL_len D
      rw [← List.take_of_length_le (l := D.toList) (i := 1) (by omega)]
      simpa using ht
  constructor
  · rintro ⟨⟨hd, h1⟩, h2⟩
    rcases h1 with h1 | ⟨h0, hne⟩
    · obtain ⟨hs, h0, h48⟩ := one.1 h1
      refine ⟨h0, hd, ?_⟩
      rintro ⟨_, _, h3 | h3⟩
      · exact h2 ⟨h3, h1⟩
      · omega
    · exact ⟨h0, hd, fun ⟨_, h3, _⟩ => hne h3⟩
  · rintro ⟨h0, hd, hn⟩
    refine ⟨⟨hd, ?_⟩, ?_⟩
    · by_cases h48 : D[0].toNat = 48
      · left
        exact one.2 ⟨by have : ¬ 1 < D.size := fun h => hn ⟨h0, h48, .inr h⟩
                        omega, h0, h48⟩
      · exact .inr ⟨h0, h48⟩
    · rintro ⟨hB, h1⟩
      obtain ⟨_, h0', h48⟩ := one.1 h1
      exact hn ⟨h0', h48, .inl hB⟩
theorem no_zero {s D : ByteArray} {B : Bool} (hD : digOf s = D) (hB : negOf s = B) (h0 : 0 < D.size) (h : D[0].toNat = 48) (h1 : B = true ∨ 1 < D.size) : ¬ readOk s := by
  subst hD hB; rw [ok_iff]; exact fun h2 => h2.2.2 ⟨h0, h, h1⟩
theorem no_empty {s D : ByteArray} (hD : digOf s = D) (h : D.size = 0) : ¬ readOk s := by
  subst hD; rw [ok_iff]; exact fun h2 => absurd h2.1 (by omega)
theorem no_dig {s D : ByteArray} (hD : digOf s = D) (j : Nat) (h : j < D.size) (hx : ¬ (48 ≤ D[j].toNat ∧ D[j].toNat ≤ 57)) : ¬ readOk s := by
  subst hD; rw [ok_iff]; exact fun h2 => hx (h2.2.1 j h)
theorem yes_ok {s D : ByteArray} {B : Bool} (hD : digOf s = D) (hB : negOf s = B) (h0 : 0 < D.size) (h : ¬ (D[0].toNat = 48 ∧ (B = true ∨ 1 < D.size))) (hd : ∀ j (h : j < D.size), j < D.size → 48 ≤ D[j].toNat ∧ D[j].toNat ≤ 57) : readOk s := by
  subst hD hB; rw [ok_iff]; exact ⟨h0, fun j hj => hd j hj hj, fun ⟨_, h2⟩ => h h2⟩
theorem dig_len {k v : Nat} (h : v < 10 ^ k) (hk : k ≤ 100) : v < 4294967296 ^ 11 := by
  have h1 : 10 ^ k ≤ 10 ^ 100 := Nat.pow_le_pow_right (by decide) hk
  have h2 : 10 ^ 100 ≤ 4294967296 ^ 11 := by decide
  omega

set_option maxRecDepth 1000000 in
set_option maxHeartbeats 4000000 in
theorem rread_neg (s : ByteArray) (w : World) (hs : s.size ≤ 100) (h0 : 0 < s.size) (h45 : s[0].toNat = 45) (h1 : 0 < s.size - 1) (h48 : ¬ (((s.extract 1 s.size)[0]'(by rw [size_ext s 1 s.size (Nat.le_refl _)]; omega)).toNat : Int) = 48) (hnz : ¬ ((((s.extract 1 s.size))[0]'(by rw [size_ext s 1 s.size (Nat.le_refl _)]; omega)).toNat = 48 ∧ (true = true ∨ 1 < (s.size - 1)))) :
    Calls Tryd.prog 21 #[.string s] w fun e w' => (readOk s ∧ RetIE w (readZ s) 0 e w') ∨ (¬ readOk s ∧ RetIE w 0 4 e w') := by
  obtain ⟨hB, hD⟩ := neg_yes s h0 h45
  have hDS : ((s.extract 1 s.size)).size = (s.size - 1) := size_ext s 1 s.size (Nat.le_refl _)
  have hz : readZ s = zOf true (dec ((s.extract 1 s.size)).toList) := by unfold readZ; rw [hD, hB]
  have HZ := Lib.hid hz
  have HNO := Lib.hid (fun j h hx => no_dig hD j h hx)
  have HYES := Lib.hid (fun h hd => yes_ok hD hB h (by rw [hDS]; exact hnz) hd)
  have HLT := Lib.hid (dec_lt' ((s.extract 1 s.size)))
  have HTK := Lib.hid (dec_take ((s.extract 1 s.size)))
  have HD := Lib.hid hDS
  clear hz hD hB hnz
  have SR0 := Slot2.new w (.bool false) (.slice none 0 0) 27
  have BB := (Below.refl w.heap.size w).alloc (Nat.le_refl _) (.cells #[.bool false, .slice none 0 0] 27)
  have hpos : 0 < ((s.extract 1 s.size)).size := by rw [hDS]; omega
  have hemp : ((s.extract 1 s.size)).toList.isEmpty = false := by
    have := toL_len ((s.extract 1 s.size))
    cases hq : ((s.extract 1 s.size)).toList with
    | nil => rw [hq] at this; simp at this; omega
    | cons x l => rfl
  have hemp2 : ¬ ((s.extract 1 s.size)).toList = [] := fun h => by rw [h] at hemp; simp at hemp
  clear hDS
  go_enter Tryd.func21, Tryd.ntmps21
  go_wp2_with fail
  all_goals try contradiction
  all_goals try (exfalso; rename_i hq; rw [hemp] at hq; cases hq; done)
  all_goals try (exfalso; omega; done)
  refine (rof_any 10 _ (by decide) (by decide)).mono ?_
  rintro e w1 ⟨g1, A1, n1, c1, rfl, hi1, hb1⟩
  have B1 := BB.trans (hb1.mono BB.size)
  have S1 := SR0.after hb1
  have hgw : w.heap.size + 1 ≤ w1.heap.size := by have := hb1.size; rwa [World.size_alloc] at this
  clear BB SR0 hb1
  go_wp2_with fail
  have SO0 := (Slot2.new w1 (.bool false) (.slice none 0 0) 27).alloc (.cells #[.bool g1, .slice A1 n1 c1] 27)
  have ST0 := Slot2.new (w1.alloc (.cells #[.bool false, .slice none 0 0] 27)) (.bool g1) (.slice A1 n1 c1) 27
  rw [World.size_alloc] at ST0
  have b2 := (Below.refl w1.heap.size w1).alloc (Nat.le_refl _) (.cells #[.bool false, .slice none 0 0] 27)
  have b3 := b2.alloc b2.size (.cells #[.bool g1, .slice A1 n1 c1] 27)
  have B3 := B1.trans (b3.mono B1.size)
  have S3 := S1.after b3
  have hi3 := hi1.below b3
  clear b2 b3 hi1 S1 B1
  go_loopw [8] (fun i wr => ∃ b : Nat, b ≤ (s.size - 1) ∧ i = .int .i64 b ∧ Hid (∀ j (h : j < ((s.extract 1 s.size)).size), j < b → 48 ≤ ((s.extract 1 s.size))[j].toNat ∧ ((s.extract 1 s.size))[j].toNat ≤ 57) ∧ IntAt wr w1.heap.size ((dec (((s.extract 1 s.size)).toList.take b) : Nat) : Int) ∧ IntAt wr (w1.heap.size + 1) 10 ∧ Slot2 wr w.heap.size (.bool false) (.slice none 0 0) ∧ Below w.heap.size w wr) (fun i _ => (s.size - 1) - (intOf i).toNat)
  case atStart => exact ⟨0, by omega, rfl, Lib.hid (fun j _ h => absurd h (by omega)), ⟨_, _, _, _, SO0, isInt_zero' _⟩, ⟨_, _, _, _, ST0, hi3⟩, S3, B3⟩
  case round =>
    clear SO0 ST0 B3 S3 hi3
    obtain ⟨b, hb, rfl, hd, hO, hT, SR, BW⟩ := hrel
    by_cases h2 : b < (s.size - 1)
    · have hbD : b < ((s.extract 1 s.size)).size := by rw [HD.out]; exact h2
      by_cases hx : 48 ≤ (((s.extract 1 s.size))[b]'hbD).toNat ∧ (((s.extract 1 s.size))[b]'hbD).toNat ≤ 57
      · obtain ⟨go, Ao, no, co, SO, IO⟩ := hO
        obtain ⟨gt, At, nt, ct, ST, IT⟩ := hT
        have hX := HTK.out b hbD
        have hlv := dig_len (HLT.out b (by omega) hd.out) (by omega)
        obtain ⟨V, hV⟩ : ∃ V, V = dec (((s.extract 1 s.size)).toList.take b) := ⟨_, rfl⟩
        rw [← hV] at hX hlv IO
        have HX := Lib.hid hX
        clear hX hV
        have hq1 : -9223372036854775808 ≤ ((((s.extract 1 s.size))[b].toNat : Nat) : Int) - 48 := by omega
        have hq2 : ((((s.extract 1 s.size))[b].toNat : Nat) : Int) - 48 ≤ 9223372036854775807 := by omega
        have hq3 : ¬ ((((s.extract 1 s.size))[b].toNat : Nat) : Int) < 48 := by omega
        have hq4 : ¬ 57 < ((((s.extract 1 s.size))[b].toNat : Nat) : Int) := by omega
        have hw1 : IntKind.i64.wrap ((((s.extract 1 s.size))[b].toNat : Nat) : Int) = ((((s.extract 1 s.size))[b].toNat : Nat) : Int) := w_small (by omega)
        have hw2 : IntKind.i64.wrap (((((s.extract 1 s.size))[b].toNat : Nat) : Int) - 48) = ((((s.extract 1 s.size))[b].toNat : Nat) : Int) - 48 := w_small (by omega)
        have zo : Sz 11 (V : Int) := Sz.of (by rw [Int.natAbs_natCast]; exact hlv) (by decide)
        have zt : Sz 1 10 := Sz.of (by decide) (by decide)
        have zm : Sz 12 ((V : Int) * 10) := Sz.of (by rw [Int.natAbs_mul, Int.natAbs_natCast, show (10 : Int).natAbs = 10 from rfl]; omega) (by decide)
        have zd : Sz 1 (((((s.extract 1 s.size))[b].toNat : Nat) : Int) - 48) := Sz.of (by omega) (by decide)
        have HDN : Hid (∀ j (h : j < ((s.extract 1 s.size)).size), j < b + 1 → 48 ≤ ((s.extract 1 s.size))[j].toNat ∧ ((s.extract 1 s.size))[j].toNat ≤ 57) := Lib.hid (fun j h1 h3 => by
          rcases Nat.lt_or_ge j b with h4 | h4
          · exact hd.out j h1 h4
          · obtain rfl : j = b := by omega
            exact hx)
        have HE : Hid (∀ wx, IntAt wx w1.heap.size ((V : Int) * 10 + (((((s.extract 1 s.size))[b].toNat : Nat) : Int) - 48)) → IntAt wx w1.heap.size ((dec (((s.extract 1 s.size)).toList.take (b + 1)) : Nat) : Int)) := Lib.hid (fun wx h => by
          have he : ((dec (((s.extract 1 s.size)).toList.take (b + 1)) : Nat) : Int) = (V : Int) * 10 + (((((s.extract 1 s.size))[b].toNat : Nat) : Int) - 48) := by
            have := HX.out; omega
          rw [he]; exact h)
        clear hd hlv HX
        go_wp2_with fail
        refine wp_region_ev (fun d a0 a' w' => ∃ u60 u61 u62 u63 u64 u65 u66 u67 u68 u69 : Value, a' = ((((((((((a0.put (some 60) u60).put (some 61) u61).put (some 62) u62).put (some 63) u63).put (some 64) u64).put (some 65) u65).put (some 66) u66).put (some 67) u67).put (some 68) u68).put (some 69) u69) ∧ Below w.heap.size w w' ∧ (d 0 = true → u60 = .agg #[.bool go, .slice Ao no co]) ∧ (d 1 = true → u61 = .agg #[.bool gt, .slice At nt ct]) ∧ (d 2 = true → IntV w' u62 ((V : Int) * 10)) ∧ (d 3 = true → u63 = .string (s.extract 1 s.size)) ∧ (d 4 = true → u64 = .int .i64 (b : Int)) ∧ (d 5 = true → u65 = .int .u8 ((((s.extract 1 s.size))[b].toNat : Nat) : Int)) ∧ (d 6 = true → u66 = .int .i64 (((s.extract 1 s.size))[b].toNat : Int)) ∧ (d 7 = true → u67 = .int .i64 ((((s.extract 1 s.size))[b].toNat : Int) - 48)) ∧ (d 8 = true → IntV w' u68 (((((s.extract 1 s.size))[b].toNat : Nat) : Int) - 48)) ∧ (d 9 = true → IntV w' u69 ((V : Int) * 10 + (((((s.extract 1 s.size))[b].toNat : Nat) : Int) - 48))) ∧ (BlkF w' (w.heap.size) (.bool false) (.slice none 0 0) false (0)) ∧ (BlkI w' (w1.heap.size) go Ao no co ((V : Int)) (d 10) ((V : Int) * 10 + (((((s.extract 1 s.size))[b].toNat : Nat) : Int) - 48))) ∧ (BlkI w' (w1.heap.size + 1) gt At nt ct (10) false (0)) ∧ (d 10 = true → d 0 = true) ∧ (d 10 = true → d 2 = true)) (by kernel_rfl) (by kernel_rfl) ?_ ?_ ?_ ?_
        · intro d d' h a' w' hh
          obtain rfl : d = d' := funext h
          exact hh
        · exact ⟨_, _, _, _, _, _, _, _, _, _, (by simp only [Act.put, List.setIfInBounds_toArray, List.set_cons_zero, List.set_cons_succ]; rfl), Below.drew (BW), (fun h => by cases h), (fun h => by cases h), (fun h => by cases h), (fun h => by cases h), (fun h => by cases h), (fun h => by cases h), (fun h => by cases h), (fun h => by cases h), (fun h => by cases h), (fun h => by cases h), (BlkF.start (Slot2.drew SR)), (BlkI.start SO IO), (BlkI.start ST IT), (fun h => by cases h), (fun h => by cases h)⟩
        · refine ⟨?_, ?_, ?_, ?_, ?_, ?_, ?_, ?_, ?_, ?_, ?_, trivial⟩
          · intro d a2 w2 hd hm ⟨u60, u61, u62, u63, u64, u65, u66, u67, u68, u69, e, HB, f0, f1, f2, f3, f4, f5, f6, f7, f8, f9, kR, kO, kT, o10_0, o10_2⟩ K hK
            subst e
            simp only [Act.put, List.setIfInBounds_toArray, List.set_cons_zero, List.set_cons_succ]
            have hs : d 10 = false := by cases hq : d 10 with | false => rfl | true => (have hz := o10_0 hq; rw [hd] at hz; cases hz)
            have ⟨y0, y1, _, _, _⟩ := (kO.1 hs).1
            clear hs
            go_simp
            exact hK.out _ _ ⟨.agg #[.bool go, .slice Ao no co], u61, u62, u63, u64, u65, u66, u67, u68, u69, (by simp only [Act.put, List.setIfInBounds_toArray, List.set_cons_zero, List.set_cons_succ]), HB, (fun _ => rfl), (fun h => f1 (by simpa using h)), (fun h => (f2 (by simpa using h))), (fun h => f3 (by simpa using h)), (fun h => f4 (by simpa using h)), (fun h => f5 (by simpa using h)), (fun h => f6 (by simpa using h)), (fun h => f7 (by simpa using h)), (fun h => (f8 (by simpa using h))), (fun h => (f9 (by simpa using h))), (by simpa using (kR)), (by simpa using (kO)), (by simpa using (kT)), (fun _ => by simp), (fun h => by simpa using o10_2 (by simpa using h))⟩
          · intro d a2 w2 hd hm ⟨u60, u61, u62, u63, u64, u65, u66, u67, u68, u69, e, HB, f0, f1, f2, f3, f4, f5, f6, f7, f8, f9, kR, kO, kT, o10_0, o10_2⟩ K hK
            subst e
            simp only [Act.put, List.setIfInBounds_toArray, List.set_cons_zero, List.set_cons_succ]
            have ⟨y0, y1, _, _, _⟩ := (kT.1 rfl).1
            go_simp
            exact hK.out _ _ ⟨u60, .agg #[.bool gt, .slice At nt ct], u62, u63, u64, u65, u66, u67, u68, u69, (by simp only [Act.put, List.setIfInBounds_toArray, List.set_cons_zero, List.set_cons_succ]), HB, (fun h => f0 (by simpa using h)), (fun _ => rfl), (fun h => (f2 (by simpa using h))), (fun h => f3 (by simpa using h)), (fun h => f4 (by simpa using h)), (fun h => f5 (by simpa using h)), (fun h => f6 (by simpa using h)), (fun h => f7 (by simpa using h)), (fun h => (f8 (by simpa using h))), (fun h => (f9 (by simpa using h))), (by simpa using (kR)), (by simpa using (kO)), (by simpa using (kT)), (fun h => by simpa using o10_0 (by simpa using h)), (fun h => by simpa using o10_2 (by simpa using h))⟩
          · intro d a2 w2 hd hm ⟨u60, u61, u62, u63, u64, u65, u66, u67, u68, u69, e, HB, f0, f1, f2, f3, f4, f5, f6, f7, f8, f9, kR, kO, kT, o10_0, o10_2⟩ K hK
            subst e
            simp only [Act.put, List.setIfInBounds_toArray, List.set_cons_zero, List.set_cons_succ]
            obtain rfl := f0 (hm ⟨0, .data⟩ (by simp) rfl)
            clear f0
            obtain rfl := f1 (hm ⟨1, .data⟩ (by simp) rfl)
            clear f1
            have hsO : d 10 = false := by cases hq : d 10 with | false => rfl | true => (have hz := o10_2 hq; rw [hd] at hz; cases hz)
            have iO := (kO.1 hsO).2
            clear hsO
            have iT := (kT.1 rfl).2
            go_simp
            (with_reducible refine (rmul_z go gt Ao At no co nt ct _ iO iT zo zt).mono ?_)
            rintro e w3 ⟨gg, AA, nn, cc, rfl, hi, hb⟩
            have HB3 := HB.trans (hb.mono HB.size)
            go_wp2_with fail
            exact hK.out _ _ ⟨.agg #[.bool go, .slice Ao no co], .agg #[.bool gt, .slice At nt ct], .agg #[.bool gg, .slice AA nn cc], u63, u64, u65, u66, u67, u68, u69, (by simp only [Act.put, List.setIfInBounds_toArray, List.set_cons_zero, List.set_cons_succ]), HB3, (fun _ => rfl), (fun _ => rfl), (fun _ => ⟨_, _, _, _, rfl, hi⟩), (fun h => f3 (by simpa using h)), (fun h => f4 (by simpa using h)), (fun h => f5 (by simpa using h)), (fun h => f6 (by simpa using h)), (fun h => f7 (by simpa using h)), (fun h => (f8 (by simpa using h)).below hb), (fun h => (f9 (by simpa using h)).below hb), (by simpa using (kR).below hb), (by simpa using (kO).below hb), (by simpa using (kT).below hb), (fun h => by simpa using o10_0 (by simpa using h)), (fun _ => by simp)⟩
          · intro d a2 w2 hd hm ⟨u60, u61, u62, u63, u64, u65, u66, u67, u68, u69, e, HB, f0, f1, f2, f3, f4, f5, f6, f7, f8, f9, kR, kO, kT, o10_0, o10_2⟩ K hK
            subst e
            simp only [Act.put, List.setIfInBounds_toArray, List.set_cons_zero, List.set_cons_succ]
            go_simp
            exact hK.out _ _ ⟨u60, u61, u62, .string (s.extract 1 s.size), u64, u65, u66, u67, u68, u69, (by simp only [Act.put, List.setIfInBounds_toArray, List.set_cons_zero, List.set_cons_succ]), HB, (fun h => f0 (by simpa using h)), (fun h => f1 (by simpa using h)), (fun h => (f2 (by simpa using h))), (fun _ => rfl), (fun h => f4 (by simpa using h)), (fun h => f5 (by simpa using h)), (fun h => f6 (by simpa using h)), (fun h => f7 (by simpa using h)), (fun h => (f8 (by simpa using h))), (fun h => (f9 (by simpa using h))), (by simpa using (kR)), (by simpa using (kO)), (by simpa using (kT)), (fun h => by simpa using o10_0 (by simpa using h)), (fun h => by simpa using o10_2 (by simpa using h))⟩
          · intro d a2 w2 hd hm ⟨u60, u61, u62, u63, u64, u65, u66, u67, u68, u69, e, HB, f0, f1, f2, f3, f4, f5, f6, f7, f8, f9, kR, kO, kT, o10_0, o10_2⟩ K hK
            subst e
            simp only [Act.put, List.setIfInBounds_toArray, List.set_cons_zero, List.set_cons_succ]
            go_simp
            exact hK.out _ _ ⟨u60, u61, u62, u63, .int .i64 (b : Int), u65, u66, u67, u68, u69, (by simp only [Act.put, List.setIfInBounds_toArray, List.set_cons_zero, List.set_cons_succ]), HB, (fun h => f0 (by simpa using h)), (fun h => f1 (by simpa using h)), (fun h => (f2 (by simpa using h))), (fun h => f3 (by simpa using h)), (fun _ => rfl), (fun h => f5 (by simpa using h)), (fun h => f6 (by simpa using h)), (fun h => f7 (by simpa using h)), (fun h => (f8 (by simpa using h))), (fun h => (f9 (by simpa using h))), (by simpa using (kR)), (by simpa using (kO)), (by simpa using (kT)), (fun h => by simpa using o10_0 (by simpa using h)), (fun h => by simpa using o10_2 (by simpa using h))⟩
          · intro d a2 w2 hd hm ⟨u60, u61, u62, u63, u64, u65, u66, u67, u68, u69, e, HB, f0, f1, f2, f3, f4, f5, f6, f7, f8, f9, kR, kO, kT, o10_0, o10_2⟩ K hK
            subst e
            simp only [Act.put, List.setIfInBounds_toArray, List.set_cons_zero, List.set_cons_succ]
            obtain rfl := f3 (hm ⟨3, .data⟩ (by simp) rfl)
            clear f3
            obtain rfl := f4 (hm ⟨4, .data⟩ (by simp) rfl)
            clear f4
            go_simp
            exact hK.out _ _ ⟨u60, u61, u62, .string (s.extract 1 s.size), .int .i64 (b : Int), .int .u8 ((((s.extract 1 s.size))[b].toNat : Nat) : Int), u66, u67, u68, u69, (by simp only [Act.put, List.setIfInBounds_toArray, List.set_cons_zero, List.set_cons_succ]), HB, (fun h => f0 (by simpa using h)), (fun h => f1 (by simpa using h)), (fun h => (f2 (by simpa using h))), (fun _ => rfl), (fun _ => rfl), (fun _ => rfl), (fun h => f6 (by simpa using h)), (fun h => f7 (by simpa using h)), (fun h => (f8 (by simpa using h))), (fun h => (f9 (by simpa using h))), (by simpa using (kR)), (by simpa using (kO)), (by simpa using (kT)), (fun h => by simpa using o10_0 (by simpa using h)), (fun h => by simpa using o10_2 (by simpa using h))⟩
          · intro d a2 w2 hd hm ⟨u60, u61, u62, u63, u64, u65, u66, u67, u68, u69, e, HB, f0, f1, f2, f3, f4, f5, f6, f7, f8, f9, kR, kO, kT, o10_0, o10_2⟩ K hK
            subst e
            simp only [Act.put, List.setIfInBounds_toArray, List.set_cons_zero, List.set_cons_succ]
            obtain rfl := f5 (hm ⟨5, .data⟩ (by simp) rfl)
            clear f5
            go_simp
            exact hK.out _ _ ⟨u60, u61, u62, u63, u64, .int .u8 ((((s.extract 1 s.size))[b].toNat : Nat) : Int), .int .i64 (((s.extract 1 s.size))[b].toNat : Int), u67, u68, u69, (by simp only [Act.put, List.setIfInBounds_toArray, List.set_cons_zero, List.set_cons_succ]), HB, (fun h => f0 (by simpa using h)), (fun h => f1 (by simpa using h)), (fun h => (f2 (by simpa using h))), (fun h => f3 (by simpa using h)), (fun h => f4 (by simpa using h)), (fun _ => rfl), (fun _ => rfl), (fun h => f7 (by simpa using h)), (fun h => (f8 (by simpa using h))), (fun h => (f9 (by simpa using h))), (by simpa using (kR)), (by simpa using (kO)), (by simpa using (kT)), (fun h => by simpa using o10_0 (by simpa using h)), (fun h => by simpa using o10_2 (by simpa using h))⟩
          · intro d a2 w2 hd hm ⟨u60, u61, u62, u63, u64, u65, u66, u67, u68, u69, e, HB, f0, f1, f2, f3, f4, f5, f6, f7, f8, f9, kR, kO, kT, o10_0, o10_2⟩ K hK
            subst e
            simp only [Act.put, List.setIfInBounds_toArray, List.set_cons_zero, List.set_cons_succ]
            obtain rfl := f6 (hm ⟨6, .data⟩ (by simp) rfl)
            clear f6
            go_simp
            exact hK.out _ _ ⟨u60, u61, u62, u63, u64, u65, .int .i64 (((s.extract 1 s.size))[b].toNat : Int), .int .i64 ((((s.extract 1 s.size))[b].toNat : Int) - 48), u68, u69, (by simp only [Act.put, List.setIfInBounds_toArray, List.set_cons_zero, List.set_cons_succ]), HB, (fun h => f0 (by simpa using h)), (fun h => f1 (by simpa using h)), (fun h => (f2 (by simpa using h))), (fun h => f3 (by simpa using h)), (fun h => f4 (by simpa using h)), (fun h => f5 (by simpa using h)), (fun _ => rfl), (fun _ => rfl), (fun h => (f8 (by simpa using h))), (fun h => (f9 (by simpa using h))), (by simpa using (kR)), (by simpa using (kO)), (by simpa using (kT)), (fun h => by simpa using o10_0 (by simpa using h)), (fun h => by simpa using o10_2 (by simpa using h))⟩
          · intro d a2 w2 hd hm ⟨u60, u61, u62, u63, u64, u65, u66, u67, u68, u69, e, HB, f0, f1, f2, f3, f4, f5, f6, f7, f8, f9, kR, kO, kT, o10_0, o10_2⟩ K hK
            subst e
            simp only [Act.put, List.setIfInBounds_toArray, List.set_cons_zero, List.set_cons_succ]
            obtain rfl := f7 (hm ⟨7, .data⟩ (by simp) rfl)
            clear f7
            go_simp
            (with_reducible refine (rof_any ((((s.extract 1 s.size))[b].toNat : Int) - 48) _ hq1 hq2).mono ?_)
            rintro e w3 ⟨gg, AA, nn, cc, rfl, hi, hb⟩
            have HB3 := HB.trans (hb.mono HB.size)
            go_wp2_with fail
            exact hK.out _ _ ⟨u60, u61, u62, u63, u64, u65, u66, .int .i64 ((((s.extract 1 s.size))[b].toNat : Int) - 48), .agg #[.bool gg, .slice AA nn cc], u69, (by simp only [Act.put, List.setIfInBounds_toArray, List.set_cons_zero, List.set_cons_succ]), HB3, (fun h => f0 (by simpa using h)), (fun h => f1 (by simpa using h)), (fun h => (f2 (by simpa using h)).below hb), (fun h => f3 (by simpa using h)), (fun h => f4 (by simpa using h)), (fun h => f5 (by simpa using h)), (fun h => f6 (by simpa using h)), (fun _ => rfl), (fun _ => ⟨_, _, _, _, rfl, hi⟩), (fun h => (f9 (by simpa using h)).below hb), (by simpa using (kR).below hb), (by simpa using (kO).below hb), (by simpa using (kT).below hb), (fun h => by simpa using o10_0 (by simpa using h)), (fun h => by simpa using o10_2 (by simpa using h))⟩
          · intro d a2 w2 hd hm ⟨u60, u61, u62, u63, u64, u65, u66, u67, u68, u69, e, HB, f0, f1, f2, f3, f4, f5, f6, f7, f8, f9, kR, kO, kT, o10_0, o10_2⟩ K hK
            subst e
            simp only [Act.put, List.setIfInBounds_toArray, List.set_cons_zero, List.set_cons_succ]
            obtain ⟨G2, A2, N2, C2, rfl, I2⟩ := f2 (hm ⟨2, .data⟩ (by simp) rfl)
            obtain ⟨G8, A8, N8, C8, rfl, I8⟩ := f8 (hm ⟨8, .data⟩ (by simp) rfl)
            go_simp
            (with_reducible refine (radd_z G2 G8 A2 A8 N2 C2 N8 C8 _ I2 I8 zm zd).mono ?_)
            rintro e w3 ⟨gg, AA, nn, cc, rfl, hi, hb⟩
            have HB3 := HB.trans (hb.mono HB.size)
            go_wp2_with fail
            exact hK.out _ _ ⟨u60, u61, .agg #[.bool G2, .slice A2 N2 C2], u63, u64, u65, u66, u67, .agg #[.bool G8, .slice A8 N8 C8], .agg #[.bool gg, .slice AA nn cc], (by simp only [Act.put, List.setIfInBounds_toArray, List.set_cons_zero, List.set_cons_succ]), HB3, (fun h => f0 (by simpa using h)), (fun h => f1 (by simpa using h)), (fun h => (f2 (by simpa using h)).below hb), (fun h => f3 (by simpa using h)), (fun h => f4 (by simpa using h)), (fun h => f5 (by simpa using h)), (fun h => f6 (by simpa using h)), (fun h => f7 (by simpa using h)), (fun h => (f8 (by simpa using h)).below hb), (fun _ => ⟨_, _, _, _, rfl, hi⟩), (by simpa using (kR).below hb), (by simpa using (kO).below hb), (by simpa using (kT).below hb), (fun h => by simpa using o10_0 (by simpa using h)), (fun h => by simpa using o10_2 (by simpa using h))⟩
          · intro d a2 w2 hd hm ⟨u60, u61, u62, u63, u64, u65, u66, u67, u68, u69, e, HB, f0, f1, f2, f3, f4, f5, f6, f7, f8, f9, kR, kO, kT, o10_0, o10_2⟩ K hK
            subst e
            simp only [Act.put, List.setIfInBounds_toArray, List.set_cons_zero, List.set_cons_succ]
            obtain ⟨gg, AA, nn, cc, rfl, hi⟩ := f9 (hm ⟨9, .data⟩ (by simp) rfl)
            have hs := (kO.1 hd).1
            obtain ⟨k0, k1, k2, k3, k4⟩ := id hs
            go_simp
            exact hK.out _ _ ⟨u60, u61, u62, u63, u64, u65, u66, u67, u68, .agg #[.bool gg, .slice AA nn cc], (by simp only [Act.put, List.setIfInBounds_toArray, List.set_cons_zero, List.set_cons_succ]), Below.set2 HB (by omega) _ _, (fun h => f0 (by simpa using h)), (fun h => f1 (by simpa using h)), (fun h => (f2 (by simpa using h)).set2 hs rfl rfl _ _), (fun h => f3 (by simpa using h)), (fun h => f4 (by simpa using h)), (fun h => f5 (by simpa using h)), (fun h => f6 (by simpa using h)), (fun h => f7 (by simpa using h)), (fun h => (f8 (by simpa using h)).set2 hs rfl rfl _ _), (fun h => (f9 (by simpa using h)).set2 hs rfl rfl _ _), (by simpa using (kR).far2 (by omega) hs rfl rfl _ _), (by simpa using BlkI.near hi hs), (by simpa using (kT).far2 (by omega) hs rfl rfl _ _), (fun _ => by simpa using hm ⟨0, .phase⟩ (by simp) rfl), (fun _ => by simpa using hm ⟨2, .phase⟩ (by simp) rfl)⟩
        · intro d a2 w2 hall ⟨u60, u61, u62, u63, u64, u65, u66, u67, u68, u69, e, HB, f0, f1, f2, f3, f4, f5, f6, f7, f8, f9, kR, kO, kT, o10_0, o10_2⟩
          subst e
          simp only [Act.put, List.setIfInBounds_toArray, List.set_cons_zero, List.set_cons_succ]
          obtain rfl := f0 (hall _ (by decide))
          obtain rfl := f1 (hall _ (by decide))
          obtain rfl := f3 (hall _ (by decide))
          obtain rfl := f4 (hall _ (by decide))
          obtain rfl := f5 (hall _ (by decide))
          obtain rfl := f6 (hall _ (by decide))
          obtain rfl := f7 (hall _ (by decide))
          have eR := kR.1 rfl
          have eO := kO.2 (hall _ (by decide))
          have eT := kT.1 rfl
          go_wp2_with fail
          go_roundw
          case rel => exact ⟨b + 1, by omega, by go_num, HDN, HE.out _ eO, ⟨_, _, _, _, eT.1, eT.2⟩, eR, HB⟩
          case measure => simp [intOf] <;> omega
      · have hno := Lib.hid (HNO.out b hbD hx)
        have ⟨r0, r1, r2, r3, r4⟩ := SR
        by_cases hx2 : (((s.extract 1 s.size))[b]'hbD).toNat < 48
        · have hq3 : ((((s.extract 1 s.size))[b].toNat : Nat) : Int) < 48 := by omega
          clear hx hd
          go_wp2
          exact bodyPost_ret (v := .tuple #[.agg #[.bool false, .slice none 0 0], .int .i64 4]) (by simp [results, r0, r1, Tryd.results21, go_sem]) rfl (.inr ⟨hno.out, _, _, _, _, rfl, isInt_zero' _, (BW.setCell (by simp) _).setCell (by simp) _⟩)
        · have hq3 : ¬ ((((s.extract 1 s.size))[b].toNat : Nat) : Int) < 48 := by omega
          have hq4 : 57 < ((((s.extract 1 s.size))[b].toNat : Nat) : Int) := by omega
          clear hx hd
          go_wp2
          exact bodyPost_ret (v := .tuple #[.agg #[.bool false, .slice none 0 0], .int .i64 4]) (by simp [results, r0, r1, Tryd.results21, go_sem]) rfl (.inr ⟨hno.out, _, _, _, _, rfl, isInt_zero' _, (BW.setCell (by simp) _).setCell (by simp) _⟩)
    · have hbM : b = (s.size - 1) := by omega
      subst hbM
      obtain ⟨go, Ao, no, co, SO, IO⟩ := hO
      have ⟨s0, s1, s2, s3, s4⟩ := SO
      have ⟨r0, r1, r2, r3, r4⟩ := SR
      have hyes := HYES.out hpos (fun j h1 _ => hd.out j h1 (by rw [HD.out] at h1; exact h1))
      have hlv := dig_len (HLT.out ((s.size - 1)) (by rw [HD.out]; omega) hd.out) (by omega)
      have htk : ((s.extract 1 s.size)).toList.take ((s.size - 1)) = ((s.extract 1 s.size)).toList := List.take_of_length_le (by rw [toL_len]; rw [HD.out]; omega)
      rw [htk] at IO hlv
      have hzz := HZ.out
      obtain ⟨V, hV⟩ : ∃ V, V = dec ((s.extract 1 s.size)).toList := ⟨_, rfl⟩
      rw [← hV] at IO hlv hzz
      have hl := IO.lim
      rw [Int.natAbs_natCast] at hl
      have HM := Lib.hid (made_val true Ao no co V _ (digs V) wr hl (by have := digs_len_le hlv; omega) (val_digs V) rfl)
      have HYZ := Lib.hid (And.intro hyes hzz)
      clear hV htk hyes hzz hd hT
      go_wp2_with fail
      refine HM.out.mono ?_
      rintro e w3 ⟨g3, A3, n3, c3, rfl, hi3, hb3⟩
      have ⟨t0, t1, t2, t3, t4⟩ := SR.after hb3
      have B3 := BW.trans (hb3.mono BW.size)
      clear s0 s1 s2 s3 s4 r0 r1 r2 r3 r4
      go_wp2
      refine bodyPost_ret (v := .tuple #[.agg #[.bool g3, .slice A3 n3 c3], .int .i64 0]) (by simp [results, t0, t1, Tryd.results21, go_sem]) rfl (.inl ⟨HYZ.out.1, _, _, _, _, rfl, ?_, ?_⟩)
      · rw [HYZ.out.2]; exact hi3.stored t0 t1 rfl rfl _ _
      · exact (B3.setCell (by simp) _).setCell (by simp) _

set_option maxRecDepth 1000000 in
set_option maxHeartbeats 4000000 in
theorem rread_dig (s : ByteArray) (w : World) (hs : s.size ≤ 100) (h0 : 0 < s.size) (h45 : ¬ (s[0].toNat : Int) = 45) (h48 : ¬ (s[0].toNat : Int) = 48) (hnz : ¬ (((s)[0]'(by omega)).toNat = 48 ∧ (false = true ∨ 1 < s.size))) :
    Calls Tryd.prog 21 #[.string s] w fun e w' => (readOk s ∧ RetIE w (readZ s) 0 e w') ∨ (¬ readOk s ∧ RetIE w 0 4 e w') := by
  obtain ⟨hB, hD⟩ := neg_no s (fun _ => by omega)
  have hDS : (s).size = s.size := rfl
  have hz : readZ s = zOf false (dec (s).toList) := by unfold readZ; rw [hD, hB]
  have HZ := Lib.hid hz
  have HNO := Lib.hid (fun j h hx => no_dig hD j h hx)
  have HYES := Lib.hid (fun h hd => yes_ok hD hB h (by rw [hDS]; exact hnz) hd)
  have HLT := Lib.hid (dec_lt' (s))
  have HTK := Lib.hid (dec_take (s))
  have HD := Lib.hid hDS
  clear hz hD hB hnz
  have SR0 := Slot2.new w (.bool false) (.slice none 0 0) 27
  have BB := (Below.refl w.heap.size w).alloc (Nat.le_refl _) (.cells #[.bool false, .slice none 0 0] 27)
  have hpos : 0 < (s).size := by rw [hDS]; omega
  have hemp : (s).toList.isEmpty = false := by
    have := toL_len (s)
    cases hq : (s).toList with
    | nil => rw [hq] at this; simp at this; omega
    | cons x l => rfl
  have hemp2 : ¬ (s).toList = [] := fun h => by rw [h] at hemp; simp at hemp
  clear hDS
  go_enter Tryd.func21, Tryd.ntmps21
  go_wp2_with fail
  all_goals try contradiction
  all_goals try (exfalso; rename_i hq; rw [hemp] at hq; cases hq; done)
  all_goals try (exfalso; omega; done)
  refine (rof_any 10 _ (by decide) (by decide)).mono ?_
  rintro e w1 ⟨g1, A1, n1, c1, rfl, hi1, hb1⟩
  have B1 := BB.trans (hb1.mono BB.size)
  have S1 := SR0.after hb1
  have hgw : w.heap.size + 1 ≤ w1.heap.size := by have := hb1.size; rwa [World.size_alloc] at this
  clear BB SR0 hb1
  go_wp2_with fail
  have SO0 := (Slot2.new w1 (.bool false) (.slice none 0 0) 27).alloc (.cells #[.bool g1, .slice A1 n1 c1] 27)
  have ST0 := Slot2.new (w1.alloc (.cells #[.bool false, .slice none 0 0] 27)) (.bool g1) (.slice A1 n1 c1) 27
  rw [World.size_alloc] at ST0
  have b2 := (Below.refl w1.heap.size w1).alloc (Nat.le_refl _) (.cells #[.bool false, .slice none 0 0] 27)
  have b3 := b2.alloc b2.size (.cells #[.bool g1, .slice A1 n1 c1] 27)
  have B3 := B1.trans (b3.mono B1.size)
  have S3 := S1.after b3
  have hi3 := hi1.below b3
  clear b2 b3 hi1 S1 B1
  go_loopw [8] (fun i wr => ∃ b : Nat, b ≤ s.size ∧ i = .int .i64 b ∧ Hid (∀ j (h : j < (s).size), j < b → 48 ≤ (s)[j].toNat ∧ (s)[j].toNat ≤ 57) ∧ IntAt wr w1.heap.size ((dec ((s).toList.take b) : Nat) : Int) ∧ IntAt wr (w1.heap.size + 1) 10 ∧ Slot2 wr w.heap.size (.bool false) (.slice none 0 0) ∧ Below w.heap.size w wr) (fun i _ => s.size - (intOf i).toNat)
  case atStart => exact ⟨0, by omega, rfl, Lib.hid (fun j _ h => absurd h (by omega)), ⟨_, _, _, _, SO0, isInt_zero' _⟩, ⟨_, _, _, _, ST0, hi3⟩, S3, B3⟩
  case round =>
    clear SO0 ST0 B3 S3 hi3
    obtain ⟨b, hb, rfl, hd, hO, hT, SR, BW⟩ := hrel
    by_cases h2 : b < s.size
    · have hbD : b < (s).size := h2
      by_cases hx : 48 ≤ ((s)[b]'hbD).toNat ∧ ((s)[b]'hbD).toNat ≤ 57
      · obtain ⟨go, Ao, no, co, SO, IO⟩ := hO
        obtain ⟨gt, At, nt, ct, ST, IT⟩ := hT
        have hX := HTK.out b hbD
        have hlv := dig_len (HLT.out b (by omega) hd.out) (by omega)
        obtain ⟨V, hV⟩ : ∃ V, V = dec ((s).toList.take b) := ⟨_, rfl⟩
        rw [← hV] at hX hlv IO
        have HX := Lib.hid hX
        clear hX hV
        have hq1 : -9223372036854775808 ≤ (((s)[b].toNat : Nat) : Int) - 48 := by omega
        have hq2 : (((s)[b].toNat : Nat) : Int) - 48 ≤ 9223372036854775807 := by omega
        have hq3 : ¬ (((s)[b].toNat : Nat) : Int) < 48 := by omega
        have hq4 : ¬ 57 < (((s)[b].toNat : Nat) : Int) := by omega
        have hw1 : IntKind.i64.wrap (((s)[b].toNat : Nat) : Int) = (((s)[b].toNat : Nat) : Int) := w_small (by omega)
        have hw2 : IntKind.i64.wrap ((((s)[b].toNat : Nat) : Int) - 48) = (((s)[b].toNat : Nat) : Int) - 48 := w_small (by omega)
        have zo : Sz 11 (V : Int) := Sz.of (by rw [Int.natAbs_natCast]; exact hlv) (by decide)
        have zt : Sz 1 10 := Sz.of (by decide) (by decide)
        have zm : Sz 12 ((V : Int) * 10) := Sz.of (by rw [Int.natAbs_mul, Int.natAbs_natCast, show (10 : Int).natAbs = 10 from rfl]; omega) (by decide)
        have zd : Sz 1 ((((s)[b].toNat : Nat) : Int) - 48) := Sz.of (by omega) (by decide)
        have HDN : Hid (∀ j (h : j < (s).size), j < b + 1 → 48 ≤ (s)[j].toNat ∧ (s)[j].toNat ≤ 57) := Lib.hid (fun j h1 h3 => by
          rcases Nat.lt_or_ge j b with h4 | h4
          · exact hd.out j h1 h4
          · obtain rfl : j = b := by omega
            exact hx)
        have HE : Hid (∀ wx, IntAt wx w1.heap.size ((V : Int) * 10 + ((((s)[b].toNat : Nat) : Int) - 48)) → IntAt wx w1.heap.size ((dec ((s).toList.take (b + 1)) : Nat) : Int)) := Lib.hid (fun wx h => by
          have he : ((dec ((s).toList.take (b + 1)) : Nat) : Int) = (V : Int) * 10 + ((((s)[b].toNat : Nat) : Int) - 48) := by
            have := HX.out; omega
          rw [he]; exact h)
        clear hd hlv HX
        go_wp2_with fail
        refine wp_region_ev (fun d a0 a' w' => ∃ u60 u61 u62 u63 u64 u65 u66 u67 u68 u69 : Value, a' = ((((((((((a0.put (some 60) u60).put (some 61) u61).put (some 62) u62).put (some 63) u63).put (some 64) u64).put (some 65) u65).put (some 66) u66).put (some 67) u67).put (some 68) u68).put (some 69) u69) ∧ Below w.heap.size w w' ∧ (d 0 = true → u60 = .agg #[.bool go, .slice Ao no co]) ∧ (d 1 = true → u61 = .agg #[.bool gt, .slice At nt ct]) ∧ (d 2 = true → IntV w' u62 ((V : Int) * 10)) ∧ (d 3 = true → u63 = .string s) ∧ (d 4 = true → u64 = .int .i64 (b : Int)) ∧ (d 5 = true → u65 = .int .u8 (((s)[b].toNat : Nat) : Int)) ∧ (d 6 = true → u66 = .int .i64 ((s)[b].toNat : Int)) ∧ (d 7 = true → u67 = .int .i64 (((s)[b].toNat : Int) - 48)) ∧ (d 8 = true → IntV w' u68 ((((s)[b].toNat : Nat) : Int) - 48)) ∧ (d 9 = true → IntV w' u69 ((V : Int) * 10 + ((((s)[b].toNat : Nat) : Int) - 48))) ∧ (BlkF w' (w.heap.size) (.bool false) (.slice none 0 0) false (0)) ∧ (BlkI w' (w1.heap.size) go Ao no co ((V : Int)) (d 10) ((V : Int) * 10 + ((((s)[b].toNat : Nat) : Int) - 48))) ∧ (BlkI w' (w1.heap.size + 1) gt At nt ct (10) false (0)) ∧ (d 10 = true → d 0 = true) ∧ (d 10 = true → d 2 = true)) (by kernel_rfl) (by kernel_rfl) ?_ ?_ ?_ ?_
        · intro d d' h a' w' hh
          obtain rfl : d = d' := funext h
          exact hh
        · exact ⟨_, _, _, _, _, _, _, _, _, _, (by simp only [Act.put, List.setIfInBounds_toArray, List.set_cons_zero, List.set_cons_succ]; rfl), Below.drew (BW), (fun h => by cases h), (fun h => by cases h), (fun h => by cases h), (fun h => by cases h), (fun h => by cases h), (fun h => by cases h), (fun h => by cases h), (fun h => by cases h), (fun h => by cases h), (fun h => by cases h), (BlkF.start (Slot2.drew SR)), (BlkI.start SO IO), (BlkI.start ST IT), (fun h => by cases h), (fun h => by cases h)⟩
        · refine ⟨?_, ?_, ?_, ?_, ?_, ?_, ?_, ?_, ?_, ?_, ?_, trivial⟩
          · intro d a2 w2 hd hm ⟨u60, u61, u62, u63, u64, u65, u66, u67, u68, u69, e, HB, f0, f1, f2, f3, f4, f5, f6, f7, f8, f9, kR, kO, kT, o10_0, o10_2⟩ K hK
            subst e
            simp only [Act.put, List.setIfInBounds_toArray, List.set_cons_zero, List.set_cons_succ]
            have hs : d 10 = false := by cases hq : d 10 with | false => rfl | true => (have hz := o10_0 hq; rw [hd] at hz; cases hz)
            have ⟨y0, y1, _, _, _⟩ := (kO.1 hs).1
            clear hs
            go_simp
            exact hK.out _ _ ⟨.agg #[.bool go, .slice Ao no co], u61, u62, u63, u64, u65, u66, u67, u68, u69, (by simp only [Act.put, List.setIfInBounds_toArray, List.set_cons_zero, List.set_cons_succ]), HB, (fun _ => rfl), (fun h => f1 (by simpa using h)), (fun h => (f2 (by simpa using h))), (fun h => f3 (by simpa using h)), (fun h => f4 (by simpa using h)), (fun h => f5 (by simpa using h)), (fun h => f6 (by simpa using h)), (fun h => f7 (by simpa using h)), (fun h => (f8 (by simpa using h))), (fun h => (f9 (by simpa using h))), (by simpa using (kR)), (by simpa using (kO)), (by simpa using (kT)), (fun _ => by simp), (fun h => by simpa using o10_2 (by simpa using h))⟩
          · intro d a2 w2 hd hm ⟨u60, u61, u62, u63, u64, u65, u66, u67, u68, u69, e, HB, f0, f1, f2, f3, f4, f5, f6, f7, f8, f9, kR, kO, kT, o10_0, o10_2⟩ K hK
            subst e
            simp only [Act.put, List.setIfInBounds_toArray, List.set_cons_zero, List.set_cons_succ]
            have ⟨y0, y1, _, _, _⟩ := (kT.1 rfl).1
            go_simp
            exact hK.out _ _ ⟨u60, .agg #[.bool gt, .slice At nt ct], u62, u63, u64, u65, u66, u67, u68, u69, (by simp only [Act.put, List.setIfInBounds_toArray, List.set_cons_zero, List.set_cons_succ]), HB, (fun h => f0 (by simpa using h)), (fun _ => rfl), (fun h => (f2 (by simpa using h))), (fun h => f3 (by simpa using h)), (fun h => f4 (by simpa using h)), (fun h => f5 (by simpa using h)), (fun h => f6 (by simpa using h)), (fun h => f7 (by simpa using h)), (fun h => (f8 (by simpa using h))), (fun h => (f9 (by simpa using h))), (by simpa using (kR)), (by simpa using (kO)), (by simpa using (kT)), (fun h => by simpa using o10_0 (by simpa using h)), (fun h => by simpa using o10_2 (by simpa using h))⟩
          · intro d a2 w2 hd hm ⟨u60, u61, u62, u63, u64, u65, u66, u67, u68, u69, e, HB, f0, f1, f2, f3, f4, f5, f6, f7, f8, f9, kR, kO, kT, o10_0, o10_2⟩ K hK
            subst e
            simp only [Act.put, List.setIfInBounds_toArray, List.set_cons_zero, List.set_cons_succ]
            obtain rfl := f0 (hm ⟨0, .data⟩ (by simp) rfl)
            clear f0
            obtain rfl := f1 (hm ⟨1, .data⟩ (by simp) rfl)
            clear f1
            have hsO : d 10 = false := by cases hq : d 10 with | false => rfl | true => (have hz := o10_2 hq; rw [hd] at hz; cases hz)
            have iO := (kO.1 hsO).2
            clear hsO
            have iT := (kT.1 rfl).2
            go_simp
            (with_reducible refine (rmul_z go gt Ao At no co nt ct _ iO iT zo zt).mono ?_)
            rintro e w3 ⟨gg, AA, nn, cc, rfl, hi, hb⟩
            have HB3 := HB.trans (hb.mono HB.size)
            go_wp2_with fail
            exact hK.out _ _ ⟨.agg #[.bool go, .slice Ao no co], .agg #[.bool gt, .slice At nt ct], .agg #[.bool gg, .slice AA nn cc], u63, u64, u65, u66, u67, u68, u69, (by simp only [Act.put, List.setIfInBounds_toArray, List.set_cons_zero, List.set_cons_succ]), HB3, (fun _ => rfl), (fun _ => rfl), (fun _ => ⟨_, _, _, _, rfl, hi⟩), (fun h => f3 (by simpa using h)), (fun h => f4 (by simpa using h)), (fun h => f5 (by simpa using h)), (fun h => f6 (by simpa using h)), (fun h => f7 (by simpa using h)), (fun h => (f8 (by simpa using h)).below hb), (fun h => (f9 (by simpa using h)).below hb), (by simpa using (kR).below hb), (by simpa using (kO).below hb), (by simpa using (kT).below hb), (fun h => by simpa using o10_0 (by simpa using h)), (fun _ => by simp)⟩
          · intro d a2 w2 hd hm ⟨u60, u61, u62, u63, u64, u65, u66, u67, u68, u69, e, HB, f0, f1, f2, f3, f4, f5, f6, f7, f8, f9, kR, kO, kT, o10_0, o10_2⟩ K hK
            subst e
            simp only [Act.put, List.setIfInBounds_toArray, List.set_cons_zero, List.set_cons_succ]
            go_simp
            exact hK.out _ _ ⟨u60, u61, u62, .string s, u64, u65, u66, u67, u68, u69, (by simp only [Act.put, List.setIfInBounds_toArray, List.set_cons_zero, List.set_cons_succ]), HB, (fun h => f0 (by simpa using h)), (fun h => f1 (by simpa using h)), (fun h => (f2 (by simpa using h))), (fun _ => rfl), (fun h => f4 (by simpa using h)), (fun h => f5 (by simpa using h)), (fun h => f6 (by simpa using h)), (fun h => f7 (by simpa using h)), (fun h => (f8 (by simpa using h))), (fun h => (f9 (by simpa using h))), (by simpa using (kR)), (by simpa using (kO)), (by simpa using (kT)), (fun h => by simpa using o10_0 (by simpa using h)), (fun h => by simpa using o10_2 (by simpa using h))⟩
          · intro d a2 w2 hd hm ⟨u60, u61, u62, u63, u64, u65, u66, u67, u68, u69, e, HB, f0, f1, f2, f3, f4, f5, f6, f7, f8, f9, kR, kO, kT, o10_0, o10_2⟩ K hK
            subst e
            simp only [Act.put, List.setIfInBounds_toArray, List.set_cons_zero, List.set_cons_succ]
            go_simp
            exact hK.out _ _ ⟨u60, u61, u62, u63, .int .i64 (b : Int), u65, u66, u67, u68, u69, (by simp only [Act.put, List.setIfInBounds_toArray, List.set_cons_zero, List.set_cons_succ]), HB, (fun h => f0 (by simpa using h)), (fun h => f1 (by simpa using h)), (fun h => (f2 (by simpa using h))), (fun h => f3 (by simpa using h)), (fun _ => rfl), (fun h => f5 (by simpa using h)), (fun h => f6 (by simpa using h)), (fun h => f7 (by simpa using h)), (fun h => (f8 (by simpa using h))), (fun h => (f9 (by simpa using h))), (by simpa using (kR)), (by simpa using (kO)), (by simpa using (kT)), (fun h => by simpa using o10_0 (by simpa using h)), (fun h => by simpa using o10_2 (by simpa using h))⟩
          · intro d a2 w2 hd hm ⟨u60, u61, u62, u63, u64, u65, u66, u67, u68, u69, e, HB, f0, f1, f2, f3, f4, f5, f6, f7, f8, f9, kR, kO, kT, o10_0, o10_2⟩ K hK
            subst e
            simp only [Act.put, List.setIfInBounds_toArray, List.set_cons_zero, List.set_cons_succ]
            obtain rfl := f3 (hm ⟨3, .data⟩ (by simp) rfl)
            clear f3
            obtain rfl := f4 (hm ⟨4, .data⟩ (by simp) rfl)
            clear f4
            go_simp
            exact hK.out _ _ ⟨u60, u61, u62, .string s, .int .i64 (b : Int), .int .u8 (((s)[b].toNat : Nat) : Int), u66, u67, u68, u69, (by simp only [Act.put, List.setIfInBounds_toArray, List.set_cons_zero, List.set_cons_succ]), HB, (fun h => f0 (by simpa using h)), (fun h => f1 (by simpa using h)), (fun h => (f2 (by simpa using h))), (fun _ => rfl), (fun _ => rfl), (fun _ => rfl), (fun h => f6 (by simpa using h)), (fun h => f7 (by simpa using h)), (fun h => (f8 (by simpa using h))), (fun h => (f9 (by simpa using h))), (by simpa using (kR)), (by simpa using (kO)), (by simpa using (kT)), (fun h => by simpa using o10_0 (by simpa using h)), (fun h => by simpa using o10_2 (by simpa using h))⟩
          · intro d a2 w2 hd hm ⟨u60, u61, u62, u63, u64, u65, u66, u67, u68, u69, e, HB, f0, f1, f2, f3, f4, f5, f6, f7, f8, f9, kR, kO, kT, o10_0, o10_2⟩ K hK
            subst e
            simp only [Act.put, List.setIfInBounds_toArray, List.set_cons_zero, List.set_cons_succ]
            obtain rfl := f5 (hm ⟨5, .data⟩ (by simp) rfl)
            clear f5
            go_simp
            exact hK.out _ _ ⟨u60, u61, u62, u63, u64, .int .u8 (((s)[b].toNat : Nat) : Int), .int .i64 ((s)[b].toNat : Int), u67, u68, u69, (by simp only [Act.put, List.setIfInBounds_toArray, List.set_cons_zero, List.set_cons_succ]), HB, (fun h => f0 (by simpa using h)), (fun h => f1 (by simpa using h)), (fun h => (f2 (by simpa using h))), (fun h => f3 (by simpa using h)), (fun h => f4 (by simpa using h)), (fun _ => rfl), (fun _ => rfl), (fun h => f7 (by simpa using h)), (fun h => (f8 (by simpa using h))), (fun h => (f9 (by simpa using h))), (by simpa using (kR)), (by simpa using (kO)), (by simpa using (kT)), (fun h => by simpa using o10_0 (by simpa using h)), (fun h => by simpa using o10_2 (by simpa using h))⟩
          · intro d a2 w2 hd hm ⟨u60, u61, u62, u63, u64, u65, u66, u67, u68, u69, e, HB, f0, f1, f2, f3, f4, f5, f6, f7, f8, f9, kR, kO, kT, o10_0, o10_2⟩ K hK
            subst e
            simp only [Act.put, List.setIfInBounds_toArray, List.set_cons_zero, List.set_cons_succ]
            obtain rfl := f6 (hm ⟨6, .data⟩ (by simp) rfl)
            clear f6
            go_simp
            exact hK.out _ _ ⟨u60, u61, u62, u63, u64, u65, .int .i64 ((s)[b].toNat : Int), .int .i64 (((s)[b].toNat : Int) - 48), u68, u69, (by simp only [Act.put, List.setIfInBounds_toArray, List.set_cons_zero, List.set_cons_succ]), HB, (fun h => f0 (by simpa using h)), (fun h => f1 (by simpa using h)), (fun h => (f2 (by simpa using h))), (fun h => f3 (by simpa using h)), (fun h => f4 (by simpa using h)), (fun h => f5 (by simpa using h)), (fun _ => rfl), (fun _ => rfl), (fun h => (f8 (by simpa using h))), (fun h => (f9 (by simpa using h))), (by simpa using (kR)), (by simpa using (kO)), (by simpa using (kT)), (fun h => by simpa using o10_0 (by simpa using h)), (fun h => by simpa using o10_2 (by simpa using h))⟩
          · intro d a2 w2 hd hm ⟨u60, u61, u62, u63, u64, u65, u66, u67, u68, u69, e, HB, f0, f1, f2, f3, f4, f5, f6, f7, f8, f9, kR, kO, kT, o10_0, o10_2⟩ K hK
            subst e
            simp only [Act.put, List.setIfInBounds_toArray, List.set_cons_zero, List.set_cons_succ]
            obtain rfl := f7 (hm ⟨7, .data⟩ (by simp) rfl)
            clear f7
            go_simp
            (with_reducible refine (rof_any (((s)[b].toNat : Int) - 48) _ hq1 hq2).mono ?_)
            rintro e w3 ⟨gg, AA, nn, cc, rfl, hi, hb⟩
            have HB3 := HB.trans (hb.mono HB.size)
            go_wp2_with fail
            exact hK.out _ _ ⟨u60, u61, u62, u63, u64, u65, u66, .int .i64 (((s)[b].toNat : Int) - 48), .agg #[.bool gg, .slice AA nn cc], u69, (by simp only [Act.put, List.setIfInBounds_toArray, List.set_cons_zero, List.set_cons_succ]), HB3, (fun h => f0 (by simpa using h)), (fun h => f1 (by simpa using h)), (fun h => (f2 (by simpa using h)).below hb), (fun h => f3 (by simpa using h)), (fun h => f4 (by simpa using h)), (fun h => f5 (by simpa using h)), (fun h => f6 (by simpa using h)), (fun _ => rfl), (fun _ => ⟨_, _, _, _, rfl, hi⟩), (fun h => (f9 (by simpa using h)).below hb), (by simpa using (kR).below hb), (by simpa using (kO).below hb), (by simpa using (kT).below hb), (fun h => by simpa using o10_0 (by simpa using h)), (fun h => by simpa using o10_2 (by simpa using h))⟩
          · intro d a2 w2 hd hm ⟨u60, u61, u62, u63, u64, u65, u66, u67, u68, u69, e, HB, f0, f1, f2, f3, f4, f5, f6, f7, f8, f9, kR, kO, kT, o10_0, o10_2⟩ K hK
            subst e
            simp only [Act.put, List.setIfInBounds_toArray, List.set_cons_zero, List.set_cons_succ]
            obtain ⟨G2, A2, N2, C2, rfl, I2⟩ := f2 (hm ⟨2, .data⟩ (by simp) rfl)
            obtain ⟨G8, A8, N8, C8, rfl, I8⟩ := f8 (hm ⟨8, .data⟩ (by simp) rfl)
            go_simp
            (with_reducible refine (radd_z G2 G8 A2 A8 N2 C2 N8 C8 _ I2 I8 zm zd).mono ?_)
            rintro e w3 ⟨gg, AA, nn, cc, rfl, hi, hb⟩
            have HB3 := HB.trans (hb.mono HB.size)
            go_wp2_with fail
            exact hK.out _ _ ⟨u60, u61, .agg #[.bool G2, .slice A2 N2 C2], u63, u64, u65, u66, u67, .agg #[.bool G8, .slice A8 N8 C8], .agg #[.bool gg, .slice AA nn cc], (by simp only [Act.put, List.setIfInBounds_toArray, List.set_cons_zero, List.set_cons_succ]), HB3, (fun h => f0 (by simpa using h)), (fun h => f1 (by simpa using h)), (fun h => (f2 (by simpa using h)).below hb), (fun h => f3 (by simpa using h)), (fun h => f4 (by simpa using h)), (fun h => f5 (by simpa using h)), (fun h => f6 (by simpa using h)), (fun h => f7 (by simpa using h)), (fun h => (f8 (by simpa using h)).below hb), (fun _ => ⟨_, _, _, _, rfl, hi⟩), (by simpa using (kR).below hb), (by simpa using (kO).below hb), (by simpa using (kT).below hb), (fun h => by simpa using o10_0 (by simpa using h)), (fun h => by simpa using o10_2 (by simpa using h))⟩
          · intro d a2 w2 hd hm ⟨u60, u61, u62, u63, u64, u65, u66, u67, u68, u69, e, HB, f0, f1, f2, f3, f4, f5, f6, f7, f8, f9, kR, kO, kT, o10_0, o10_2⟩ K hK
            subst e
            simp only [Act.put, List.setIfInBounds_toArray, List.set_cons_zero, List.set_cons_succ]
            obtain ⟨gg, AA, nn, cc, rfl, hi⟩ := f9 (hm ⟨9, .data⟩ (by simp) rfl)
            have hs := (kO.1 hd).1
            obtain ⟨k0, k1, k2, k3, k4⟩ := id hs
            go_simp
            exact hK.out _ _ ⟨u60, u61, u62, u63, u64, u65, u66, u67, u68, .agg #[.bool gg, .slice AA nn cc], (by simp only [Act.put, List.setIfInBounds_toArray, List.set_cons_zero, List.set_cons_succ]), Below.set2 HB (by omega) _ _, (fun h => f0 (by simpa using h)), (fun h => f1 (by simpa using h)), (fun h => (f2 (by simpa using h)).set2 hs rfl rfl _ _), (fun h => f3 (by simpa using h)), (fun h => f4 (by simpa using h)), (fun h => f5 (by simpa using h)), (fun h => f6 (by simpa using h)), (fun h => f7 (by simpa using h)), (fun h => (f8 (by simpa using h)).set2 hs rfl rfl _ _), (fun h => (f9 (by simpa using h)).set2 hs rfl rfl _ _), (by simpa using (kR).far2 (by omega) hs rfl rfl _ _), (by simpa using BlkI.near hi hs), (by simpa using (kT).far2 (by omega) hs rfl rfl _ _), (fun _ => by simpa using hm ⟨0, .phase⟩ (by simp) rfl), (fun _ => by simpa using hm ⟨2, .phase⟩ (by simp) rfl)⟩
        · intro d a2 w2 hall ⟨u60, u61, u62, u63, u64, u65, u66, u67, u68, u69, e, HB, f0, f1, f2, f3, f4, f5, f6, f7, f8, f9, kR, kO, kT, o10_0, o10_2⟩
          subst e
          simp only [Act.put, List.setIfInBounds_toArray, List.set_cons_zero, List.set_cons_succ]
          obtain rfl := f0 (hall _ (by decide))
          obtain rfl := f1 (hall _ (by decide))
          obtain rfl := f3 (hall _ (by decide))
          obtain rfl := f4 (hall _ (by decide))
          obtain rfl := f5 (hall _ (by decide))
          obtain rfl := f6 (hall _ (by decide))
          obtain rfl := f7 (hall _ (by decide))
          have eR := kR.1 rfl
          have eO := kO.2 (hall _ (by decide))
          have eT := kT.1 rfl
          go_wp2_with fail
          go_roundw
          case rel => exact ⟨b + 1, by omega, by go_num, HDN, HE.out _ eO, ⟨_, _, _, _, eT.1, eT.2⟩, eR, HB⟩
          case measure => simp [intOf] <;> omega
      · have hno := Lib.hid (HNO.out b hbD hx)
        have ⟨r0, r1, r2, r3, r4⟩ := SR
        by_cases hx2 : ((s)[b]'hbD).toNat < 48
        · have hq3 : (((s)[b].toNat : Nat) : Int) < 48 := by omega
          clear hx hd
          go_wp2
          exact bodyPost_ret (v := .tuple #[.agg #[.bool false, .slice none 0 0], .int .i64 4]) (by simp [results, r0, r1, Tryd.results21, go_sem]) rfl (.inr ⟨hno.out, _, _, _, _, rfl, isInt_zero' _, (BW.setCell (by simp) _).setCell (by simp) _⟩)
        · have hq3 : ¬ (((s)[b].toNat : Nat) : Int) < 48 := by omega
          have hq4 : 57 < (((s)[b].toNat : Nat) : Int) := by omega
          clear hx hd
          go_wp2
          exact bodyPost_ret (v := .tuple #[.agg #[.bool false, .slice none 0 0], .int .i64 4]) (by simp [results, r0, r1, Tryd.results21, go_sem]) rfl (.inr ⟨hno.out, _, _, _, _, rfl, isInt_zero' _, (BW.setCell (by simp) _).setCell (by simp) _⟩)
    · have hbM : b = s.size := by omega
      subst hbM
      obtain ⟨go, Ao, no, co, SO, IO⟩ := hO
      have ⟨s0, s1, s2, s3, s4⟩ := SO
      have ⟨r0, r1, r2, r3, r4⟩ := SR
      have hyes := HYES.out hpos (fun j h1 _ => hd.out j h1 (by exact h1))
      have hlv := dig_len (HLT.out (s.size) (by omega) hd.out) (by omega)
      have htk : (s).toList.take (s.size) = (s).toList := List.take_of_length_le (by rw [toL_len]; omega)
      rw [htk] at IO hlv
      have hzz := HZ.out
      obtain ⟨V, hV⟩ : ∃ V, V = dec (s).toList := ⟨_, rfl⟩
      rw [← hV] at IO hlv hzz
      have hl := IO.lim
      rw [Int.natAbs_natCast] at hl
      have HM := Lib.hid (made_val false Ao no co V _ (digs V) wr hl (by have := digs_len_le hlv; omega) (val_digs V) rfl)
      have HYZ := Lib.hid (And.intro hyes hzz)
      clear hV htk hyes hzz hd hT
      go_wp2_with fail
      refine HM.out.mono ?_
      rintro e w3 ⟨g3, A3, n3, c3, rfl, hi3, hb3⟩
      have ⟨t0, t1, t2, t3, t4⟩ := SR.after hb3
      have B3 := BW.trans (hb3.mono BW.size)
      clear s0 s1 s2 s3 s4 r0 r1 r2 r3 r4
      go_wp2
      refine bodyPost_ret (v := .tuple #[.agg #[.bool g3, .slice A3 n3 c3], .int .i64 0]) (by simp [results, t0, t1, Tryd.results21, go_sem]) rfl (.inl ⟨HYZ.out.1, _, _, _, _, rfl, ?_, ?_⟩)
      · rw [HYZ.out.2]; exact hi3.stored t0 t1 rfl rfl _ _
      · exact (B3.setCell (by simp) _).setCell (by simp) _

set_option maxRecDepth 1000000 in
set_option maxHeartbeats 4000000 in
theorem rread_zero (s : ByteArray) (w : World) (hs : s.size ≤ 100) (h0 : 0 < s.size) (h48 : s[0].toNat = 48) (h1 : s.size = 1) (hnz : ¬ (((s)[0]'(by omega)).toNat = 48 ∧ (false = true ∨ 1 < s.size))) :
    Calls Tryd.prog 21 #[.string s] w fun e w' => (readOk s ∧ RetIE w (readZ s) 0 e w') ∨ (¬ readOk s ∧ RetIE w 0 4 e w') := by
  obtain ⟨hB, hD⟩ := neg_no s (fun _ => by omega)
  have hDS : (s).size = s.size := rfl
  have hz : readZ s = zOf false (dec (s).toList) := by unfold readZ; rw [hD, hB]
  have HZ := Lib.hid hz
  have HNO := Lib.hid (fun j h hx => no_dig hD j h hx)
  have HYES := Lib.hid (fun h hd => yes_ok hD hB h (by rw [hDS]; exact hnz) hd)
  have HLT := Lib.hid (dec_lt' (s))
  have HTK := Lib.hid (dec_take (s))
  have HD := Lib.hid hDS
  clear hz hD hB hnz
  have SR0 := Slot2.new w (.bool false) (.slice none 0 0) 27
  have BB := (Below.refl w.heap.size w).alloc (Nat.le_refl _) (.cells #[.bool false, .slice none 0 0] 27)
  have hpos : 0 < (s).size := by rw [hDS]; omega
  have hemp : (s).toList.isEmpty = false := by
    have := toL_len (s)
    cases hq : (s).toList with
    | nil => rw [hq] at this; simp at this; omega
    | cons x l => rfl
  have hemp2 : ¬ (s).toList = [] := fun h => by rw [h] at hemp; simp at hemp
  clear hDS
  go_enter Tryd.func21, Tryd.ntmps21
  go_wp2_with fail
  all_goals try contradiction
  all_goals try (exfalso; rename_i hq; rw [hemp] at hq; cases hq; done)
  all_goals try (exfalso; omega; done)
  refine (rof_any 10 _ (by decide) (by decide)).mono ?_
  rintro e w1 ⟨g1, A1, n1, c1, rfl, hi1, hb1⟩
  have B1 := BB.trans (hb1.mono BB.size)
  have S1 := SR0.after hb1
  have hgw : w.heap.size + 1 ≤ w1.heap.size := by have := hb1.size; rwa [World.size_alloc] at this
  clear BB SR0 hb1
  go_wp2_with fail
  have SO0 := (Slot2.new w1 (.bool false) (.slice none 0 0) 27).alloc (.cells #[.bool g1, .slice A1 n1 c1] 27)
  have ST0 := Slot2.new (w1.alloc (.cells #[.bool false, .slice none 0 0] 27)) (.bool g1) (.slice A1 n1 c1) 27
  rw [World.size_alloc] at ST0
  have b2 := (Below.refl w1.heap.size w1).alloc (Nat.le_refl _) (.cells #[.bool false, .slice none 0 0] 27)
  have b3 := b2.alloc b2.size (.cells #[.bool g1, .slice A1 n1 c1] 27)
  have B3 := B1.trans (b3.mono B1.size)
  have S3 := S1.after b3
  have hi3 := hi1.below b3
  clear b2 b3 hi1 S1 B1
  go_loopw [8] (fun i wr => ∃ b : Nat, b ≤ s.size ∧ i = .int .i64 b ∧ Hid (∀ j (h : j < (s).size), j < b → 48 ≤ (s)[j].toNat ∧ (s)[j].toNat ≤ 57) ∧ IntAt wr w1.heap.size ((dec ((s).toList.take b) : Nat) : Int) ∧ IntAt wr (w1.heap.size + 1) 10 ∧ Slot2 wr w.heap.size (.bool false) (.slice none 0 0) ∧ Below w.heap.size w wr) (fun i _ => s.size - (intOf i).toNat)
  case atStart => exact ⟨0, by omega, rfl, Lib.hid (fun j _ h => absurd h (by omega)), ⟨_, _, _, _, SO0, isInt_zero' _⟩, ⟨_, _, _, _, ST0, hi3⟩, S3, B3⟩
  case round =>
    clear SO0 ST0 B3 S3 hi3
    obtain ⟨b, hb, rfl, hd, hO, hT, SR, BW⟩ := hrel
    by_cases h2 : b < s.size
    · have hbD : b < (s).size := h2
      by_cases hx : 48 ≤ ((s)[b]'hbD).toNat ∧ ((s)[b]'hbD).toNat ≤ 57
      · obtain ⟨go, Ao, no, co, SO, IO⟩ := hO
        obtain ⟨gt, At, nt, ct, ST, IT⟩ := hT
        have hX := HTK.out b hbD
        have hlv := dig_len (HLT.out b (by omega) hd.out) (by omega)
        obtain ⟨V, hV⟩ : ∃ V, V = dec ((s).toList.take b) := ⟨_, rfl⟩
        rw [← hV] at hX hlv IO
        have HX := Lib.hid hX
        clear hX hV
        have hq1 : -9223372036854775808 ≤ (((s)[b].toNat : Nat) : Int) - 48 := by omega
        have hq2 : (((s)[b].toNat : Nat) : Int) - 48 ≤ 9223372036854775807 := by omega
        have hq3 : ¬ (((s)[b].toNat : Nat) : Int) < 48 := by omega
        have hq4 : ¬ 57 < (((s)[b].toNat : Nat) : Int) := by omega
        have hw1 : IntKind.i64.wrap (((s)[b].toNat : Nat) : Int) = (((s)[b].toNat : Nat) : Int) := w_small (by omega)
        have hw2 : IntKind.i64.wrap ((((s)[b].toNat : Nat) : Int) - 48) = (((s)[b].toNat : Nat) : Int) - 48 := w_small (by omega)
        have zo : Sz 11 (V : Int) := Sz.of (by rw [Int.natAbs_natCast]; exact hlv) (by decide)
        have zt : Sz 1 10 := Sz.of (by decide) (by decide)
        have zm : Sz 12 ((V : Int) * 10) := Sz.of (by rw [Int.natAbs_mul, Int.natAbs_natCast, show (10 : Int).natAbs = 10 from rfl]; omega) (by decide)
        have zd : Sz 1 ((((s)[b].toNat : Nat) : Int) - 48) := Sz.of (by omega) (by decide)
        have HDN : Hid (∀ j (h : j < (s).size), j < b + 1 → 48 ≤ (s)[j].toNat ∧ (s)[j].toNat ≤ 57) := Lib.hid (fun j h1 h3 => by
          rcases Nat.lt_or_ge j b with h4 | h4
          · exact hd.out j h1 h4
          · obtain rfl : j = b := by omega
            exact hx)
        have HE : Hid (∀ wx, IntAt wx w1.heap.size ((V : Int) * 10 + ((((s)[b].toNat : Nat) : Int) - 48)) → IntAt wx w1.heap.size ((dec ((s).toList.take (b + 1)) : Nat) : Int)) := Lib.hid (fun wx h => by
          have he : ((dec ((s).toList.take (b + 1)) : Nat) : Int) = (V : Int) * 10 + ((((s)[b].toNat : Nat) : Int) - 48) := by
            have := HX.out; omega
          rw [he]; exact h)
        clear hd hlv HX
        go_wp2_with fail
        refine wp_region_ev (fun d a0 a' w' => ∃ u60 u61 u62 u63 u64 u65 u66 u67 u68 u69 : Value, a' = ((((((((((a0.put (some 60) u60).put (some 61) u61).put (some 62) u62).put (some 63) u63).put (some 64) u64).put (some 65) u65).put (some 66) u66).put (some 67) u67).put (some 68) u68).put (some 69) u69) ∧ Below w.heap.size w w' ∧ (d 0 = true → u60 = .agg #[.bool go, .slice Ao no co]) ∧ (d 1 = true → u61 = .agg #[.bool gt, .slice At nt ct]) ∧ (d 2 = true → IntV w' u62 ((V : Int) * 10)) ∧ (d 3 = true → u63 = .string s) ∧ (d 4 = true → u64 = .int .i64 (b : Int)) ∧ (d 5 = true → u65 = .int .u8 (((s)[b].toNat : Nat) : Int)) ∧ (d 6 = true → u66 = .int .i64 ((s)[b].toNat : Int)) ∧ (d 7 = true → u67 = .int .i64 (((s)[b].toNat : Int) - 48)) ∧ (d 8 = true → IntV w' u68 ((((s)[b].toNat : Nat) : Int) - 48)) ∧ (d 9 = true → IntV w' u69 ((V : Int) * 10 + ((((s)[b].toNat : Nat) : Int) - 48))) ∧ (BlkF w' (w.heap.size) (.bool false) (.slice none 0 0) false (0)) ∧ (BlkI w' (w1.heap.size) go Ao no co ((V : Int)) (d 10) ((V : Int) * 10 + ((((s)[b].toNat : Nat) : Int) - 48))) ∧ (BlkI w' (w1.heap.size + 1) gt At nt ct (10) false (0)) ∧ (d 10 = true → d 0 = true) ∧ (d 10 = true → d 2 = true)) (by kernel_rfl) (by kernel_rfl) ?_ ?_ ?_ ?_
        · intro d d' h a' w' hh
          obtain rfl : d = d' := funext h
          exact hh
        · exact ⟨_, _, _, _, _, _, _, _, _, _, (by simp only [Act.put, List.setIfInBounds_toArray, List.set_cons_zero, List.set_cons_succ]; rfl), Below.drew (BW), (fun h => by cases h), (fun h => by cases h), (fun h => by cases h), (fun h => by cases h), (fun h => by cases h), (fun h => by cases h), (fun h => by cases h), (fun h => by cases h), (fun h => by cases h), (fun h => by cases h), (BlkF.start (Slot2.drew SR)), (BlkI.start SO IO), (BlkI.start ST IT), (fun h => by cases h), (fun h => by cases h)⟩
        · refine ⟨?_, ?_, ?_, ?_, ?_, ?_, ?_, ?_, ?_, ?_, ?_, trivial⟩
          · intro d a2 w2 hd hm ⟨u60, u61, u62, u63, u64, u65, u66, u67, u68, u69, e, HB, f0, f1, f2, f3, f4, f5, f6, f7, f8, f9, kR, kO, kT, o10_0, o10_2⟩ K hK
            subst e
            simp only [Act.put, List.setIfInBounds_toArray, List.set_cons_zero, List.set_cons_succ]
            have hs : d 10 = false := by cases hq : d 10 with | false => rfl | true => (have hz := o10_0 hq; rw [hd] at hz; cases hz)
            have ⟨y0, y1, _, _, _⟩ := (kO.1 hs).1
            clear hs
            go_simp
            exact hK.out _ _ ⟨.agg #[.bool go, .slice Ao no co], u61, u62, u63, u64, u65, u66, u67, u68, u69, (by simp only [Act.put, List.setIfInBounds_toArray, List.set_cons_zero, List.set_cons_succ]), HB, (fun _ => rfl), (fun h => f1 (by simpa using h)), (fun h => (f2 (by simpa using h))), (fun h => f3 (by simpa using h)), (fun h => f4 (by simpa using h)), (fun h => f5 (by simpa using h)), (fun h => f6 (by simpa using h)), (fun h => f7 (by simpa using h)), (fun h => (f8 (by simpa using h))), (fun h => (f9 (by simpa using h))), (by simpa using (kR)), (by simpa using (kO)), (by simpa using (kT)), (fun _ => by simp), (fun h => by simpa using o10_2 (by simpa using h))⟩
          · intro d a2 w2 hd hm ⟨u60, u61, u62, u63, u64, u65, u66, u67, u68, u69, e, HB, f0, f1, f2, f3, f4, f5, f6, f7, f8, f9, kR, kO, kT, o10_0, o10_2⟩ K hK
            subst e
            simp only [Act.put, List.setIfInBounds_toArray, List.set_cons_zero, List.set_cons_succ]
            have ⟨y0, y1, _, _, _⟩ := (kT.1 rfl).1
            go_simp
            exact hK.out _ _ ⟨u60, .agg #[.bool gt, .slice At nt ct], u62, u63, u64, u65, u66, u67, u68, u69, (by simp only [Act.put, List.setIfInBounds_toArray, List.set_cons_zero, List.set_cons_succ]), HB, (fun h => f0 (by simpa using h)), (fun _ => rfl), (fun h => (f2 (by simpa using h))), (fun h => f3 (by simpa using h)), (fun h => f4 (by simpa using h)), (fun h => f5 (by simpa using h)), (fun h => f6 (by simpa using h)), (fun h => f7 (by simpa using h)), (fun h => (f8 (by simpa using h))), (fun h => (f9 (by simpa using h))), (by simpa using (kR)), (by simpa using (kO)), (by simpa using (kT)), (fun h => by simpa using o10_0 (by simpa using h)), (fun h => by simpa using o10_2 (by simpa using h))⟩
          · intro d a2 w2 hd hm ⟨u60, u61, u62, u63, u64, u65, u66, u67, u68, u69, e, HB, f0, f1, f2, f3, f4, f5, f6, f7, f8, f9, kR, kO, kT, o10_0, o10_2⟩ K hK
            subst e
            simp only [Act.put, List.setIfInBounds_toArray, List.set_cons_zero, List.set_cons_succ]
            obtain rfl := f0 (hm ⟨0, .data⟩ (by simp) rfl)
            clear f0
            obtain rfl := f1 (hm ⟨1, .data⟩ (by simp) rfl)
            clear f1
            have hsO : d 10 = false := by cases hq : d 10 with | false => rfl | true => (have hz := o10_2 hq; rw [hd] at hz; cases hz)
            have iO := (kO.1 hsO).2
            clear hsO
            have iT := (kT.1 rfl).2
            go_simp
            (with_reducible refine (rmul_z go gt Ao At no co nt ct _ iO iT zo zt).mono ?_)
            rintro e w3 ⟨gg, AA, nn, cc, rfl, hi, hb⟩
            have HB3 := HB.trans (hb.mono HB.size)
            go_wp2_with fail
            exact hK.out _ _ ⟨.agg #[.bool go, .slice Ao no co], .agg #[.bool gt, .slice At nt ct], .agg #[.bool gg, .slice AA nn cc], u63, u64, u65, u66, u67, u68, u69, (by simp only [Act.put, List.setIfInBounds_toArray, List.set_cons_zero, List.set_cons_succ]), HB3, (fun _ => rfl), (fun _ => rfl), (fun _ => ⟨_, _, _, _, rfl, hi⟩), (fun h => f3 (by simpa using h)), (fun h => f4 (by simpa using h)), (fun h => f5 (by simpa using h)), (fun h => f6 (by simpa using h)), (fun h => f7 (by simpa using h)), (fun h => (f8 (by simpa using h)).below hb), (fun h => (f9 (by simpa using h)).below hb), (by simpa using (kR).below hb), (by simpa using (kO).below hb), (by simpa using (kT).below hb), (fun h => by simpa using o10_0 (by simpa using h)), (fun _ => by simp)⟩
          · intro d a2 w2 hd hm ⟨u60, u61, u62, u63, u64, u65, u66, u67, u68, u69, e, HB, f0, f1, f2, f3, f4, f5, f6, f7, f8, f9, kR, kO, kT, o10_0, o10_2⟩ K hK
            subst e
            simp only [Act.put, List.setIfInBounds_toArray, List.set_cons_zero, List.set_cons_succ]
            go_simp
            exact hK.out _ _ ⟨u60, u61, u62, .string s, u64, u65, u66, u67, u68, u69, (by simp only [Act.put, List.setIfInBounds_toArray, List.set_cons_zero, List.set_cons_succ]), HB, (fun h => f0 (by simpa using h)), (fun h => f1 (by simpa using h)), (fun h => (f2 (by simpa using h))), (fun _ => rfl), (fun h => f4 (by simpa using h)), (fun h => f5 (by simpa using h)), (fun h => f6 (by simpa using h)), (fun h => f7 (by simpa using h)), (fun h => (f8 (by simpa using h))), (fun h => (f9 (by simpa using h))), (by simpa using (kR)), (by simpa using (kO)), (by simpa using (kT)), (fun h => by simpa using o10_0 (by simpa using h)), (fun h => by simpa using o10_2 (by simpa using h))⟩
          · intro d a2 w2 hd hm ⟨u60, u61, u62, u63, u64, u65, u66, u67, u68, u69, e, HB, f0, f1, f2, f3, f4, f5, f6, f7, f8, f9, kR, kO, kT, o10_0, o10_2⟩ K hK
            subst e
            simp only [Act.put, List.setIfInBounds_toArray, List.set_cons_zero, List.set_cons_succ]
            go_simp
            exact hK.out _ _ ⟨u60, u61, u62, u63, .int .i64 (b : Int), u65, u66, u67, u68, u69, (by simp only [Act.put, List.setIfInBounds_toArray, List.set_cons_zero, List.set_cons_succ]), HB, (fun h => f0 (by simpa using h)), (fun h => f1 (by simpa using h)), (fun h => (f2 (by simpa using h))), (fun h => f3 (by simpa using h)), (fun _ => rfl), (fun h => f5 (by simpa using h)), (fun h => f6 (by simpa using h)), (fun h => f7 (by simpa using h)), (fun h => (f8 (by simpa using h))), (fun h => (f9 (by simpa using h))), (by simpa using (kR)), (by simpa using (kO)), (by simpa using (kT)), (fun h => by simpa using o10_0 (by simpa using h)), (fun h => by simpa using o10_2 (by simpa using h))⟩
          · intro d a2 w2 hd hm ⟨u60, u61, u62, u63, u64, u65, u66, u67, u68, u69, e, HB, f0, f1, f2, f3, f4, f5, f6, f7, f8, f9, kR, kO, kT, o10_0, o10_2⟩ K hK
            subst e
            simp only [Act.put, List.setIfInBounds_toArray, List.set_cons_zero, List.set_cons_succ]
            obtain rfl := f3 (hm ⟨3, .data⟩ (by simp) rfl)
            clear f3
            obtain rfl := f4 (hm ⟨4, .data⟩ (by simp) rfl)
            clear f4
            go_simp
            exact hK.out _ _ ⟨u60, u61, u62, .string s, .int .i64 (b : Int), .int .u8 (((s)[b].toNat : Nat) : Int), u66, u67, u68, u69, (by simp only [Act.put, List.setIfInBounds_toArray, List.set_cons_zero, List.set_cons_succ]), HB, (fun h => f0 (by simpa using h)), (fun h => f1 (by simpa using h)), (fun h => (f2 (by simpa using h))), (fun _ => rfl), (fun _ => rfl), (fun _ => rfl), (fun h => f6 (by simpa using h)), (fun h => f7 (by simpa using h)), (fun h => (f8 (by simpa using h))), (fun h => (f9 (by simpa using h))), (by simpa using (kR)), (by simpa using (kO)), (by simpa using (kT)), (fun h => by simpa using o10_0 (by simpa using h)), (fun h => by simpa using o10_2 (by simpa using h))⟩
          · intro d a2 w2 hd hm ⟨u60, u61, u62, u63, u64, u65, u66, u67, u68, u69, e, HB, f0, f1, f2, f3, f4, f5, f6, f7, f8, f9, kR, kO, kT, o10_0, o10_2⟩ K hK
            subst e
            simp only [Act.put, List.setIfInBounds_toArray, List.set_cons_zero, List.set_cons_succ]
            obtain rfl := f5 (hm ⟨5, .data⟩ (by simp) rfl)
            clear f5
            go_simp
            exact hK.out _ _ ⟨u60, u61, u62, u63, u64, .int .u8 (((s)[b].toNat : Nat) : Int), .int .i64 ((s)[b].toNat : Int), u67, u68, u69, (by simp only [Act.put, List.setIfInBounds_toArray, List.set_cons_zero, List.set_cons_succ]), HB, (fun h => f0 (by simpa using h)), (fun h => f1 (by simpa using h)), (fun h => (f2 (by simpa using h))), (fun h => f3 (by simpa using h)), (fun h => f4 (by simpa using h)), (fun _ => rfl), (fun _ => rfl), (fun h => f7 (by simpa using h)), (fun h => (f8 (by simpa using h))), (fun h => (f9 (by simpa using h))), (by simpa using (kR)), (by simpa using (kO)), (by simpa using (kT)), (fun h => by simpa using o10_0 (by simpa using h)), (fun h => by simpa using o10_2 (by simpa using h))⟩
          · intro d a2 w2 hd hm ⟨u60, u61, u62, u63, u64, u65, u66, u67, u68, u69, e, HB, f0, f1, f2, f3, f4, f5, f6, f7, f8, f9, kR, kO, kT, o10_0, o10_2⟩ K hK
            subst e
            simp only [Act.put, List.setIfInBounds_toArray, List.set_cons_zero, List.set_cons_succ]
            obtain rfl := f6 (hm ⟨6, .data⟩ (by simp) rfl)
            clear f6
            go_simp
            exact hK.out _ _ ⟨u60, u61, u62, u63, u64, u65, .int .i64 ((s)[b].toNat : Int), .int .i64 (((s)[b].toNat : Int) - 48), u68, u69, (by simp only [Act.put, List.setIfInBounds_toArray, List.set_cons_zero, List.set_cons_succ]), HB, (fun h => f0 (by simpa using h)), (fun h => f1 (by simpa using h)), (fun h => (f2 (by simpa using h))), (fun h => f3 (by simpa using h)), (fun h => f4 (by simpa using h)), (fun h => f5 (by simpa using h)), (fun _ => rfl), (fun _ => rfl), (fun h => (f8 (by simpa using h))), (fun h => (f9 (by simpa using h))), (by simpa using (kR)), (by simpa using (kO)), (by simpa using (kT)), (fun h => by simpa using o10_0 (by simpa using h)), (fun h => by simpa using o10_2 (by simpa using h))⟩
          · intro d a2 w2 hd hm ⟨u60, u61, u62, u63, u64, u65, u66, u67, u68, u69, e, HB, f0, f1, f2, f3, f4, f5, f6, f7, f8, f9, kR, kO, kT, o10_0, o10_2⟩ K hK
            subst e
            simp only [Act.put, List.setIfInBounds_toArray, List.set_cons_zero, List.set_cons_succ]
            obtain rfl := f7 (hm ⟨7, .data⟩ (by simp) rfl)
            clear f7
            go_simp
            (with_reducible refine (rof_any (((s)[b].toNat : Int) - 48) _ hq1 hq2).mono ?_)
            rintro e w3 ⟨gg, AA, nn, cc, rfl, hi, hb⟩
            have HB3 := HB.trans (hb.mono HB.size)
            go_wp2_with fail
            exact hK.out _ _ ⟨u60, u61, u62, u63, u64, u65, u66, .int .i64 (((s)[b].toNat : Int) - 48), .agg #[.bool gg, .slice AA nn cc], u69, (by simp only [Act.put, List.setIfInBounds_toArray, List.set_cons_zero, List.set_cons_succ]), HB3, (fun h => f0 (by simpa using h)), (fun h => f1 (by simpa using h)), (fun h => (f2 (by simpa using h)).below hb), (fun h => f3 (by simpa using h)), (fun h => f4 (by simpa using h)), (fun h => f5 (by simpa using h)), (fun h => f6 (by simpa using h)), (fun _ => rfl), (fun _ => ⟨_, _, _, _, rfl, hi⟩), (fun h => (f9 (by simpa using h)).below hb), (by simpa using (kR).below hb), (by simpa using (kO).below hb), (by simpa using (kT).below hb), (fun h => by simpa using o10_0 (by simpa using h)), (fun h => by simpa using o10_2 (by simpa using h))⟩
          · intro d a2 w2 hd hm ⟨u60, u61, u62, u63, u64, u65, u66, u67, u68, u69, e, HB, f0, f1, f2, f3, f4, f5, f6, f7, f8, f9, kR, kO, kT, o10_0, o10_2⟩ K hK
            subst e
            simp only [Act.put, List.setIfInBounds_toArray, List.set_cons_zero, List.set_cons_succ]
            obtain ⟨G2, A2, N2, C2, rfl, I2⟩ := f2 (hm ⟨2, .data⟩ (by simp) rfl)
            obtain ⟨G8, A8, N8, C8, rfl, I8⟩ := f8 (hm ⟨8, .data⟩ (by simp) rfl)
            go_simp
            (with_reducible refine (radd_z G2 G8 A2 A8 N2 C2 N8 C8 _ I2 I8 zm zd).mono ?_)
            rintro e w3 ⟨gg, AA, nn, cc, rfl, hi, hb⟩
            have HB3 := HB.trans (hb.mono HB.size)
            go_wp2_with fail
            exact hK.out _ _ ⟨u60, u61, .agg #[.bool G2, .slice A2 N2 C2], u63, u64, u65, u66, u67, .agg #[.bool G8, .slice A8 N8 C8], .agg #[.bool gg, .slice AA nn cc], (by simp only [Act.put, List.setIfInBounds_toArray, List.set_cons_zero, List.set_cons_succ]), HB3, (fun h => f0 (by simpa using h)), (fun h => f1 (by simpa using h)), (fun h => (f2 (by simpa using h)).below hb), (fun h => f3 (by simpa using h)), (fun h => f4 (by simpa using h)), (fun h => f5 (by simpa using h)), (fun h => f6 (by simpa using h)), (fun h => f7 (by simpa using h)), (fun h => (f8 (by simpa using h)).below hb), (fun _ => ⟨_, _, _, _, rfl, hi⟩), (by simpa using (kR).below hb), (by simpa using (kO).below hb), (by simpa using (kT).below hb), (fun h => by simpa using o10_0 (by simpa using h)), (fun h => by simpa using o10_2 (by simpa using h))⟩
          · intro d a2 w2 hd hm ⟨u60, u61, u62, u63, u64, u65, u66, u67, u68, u69, e, HB, f0, f1, f2, f3, f4, f5, f6, f7, f8, f9, kR, kO, kT, o10_0, o10_2⟩ K hK
            subst e
            simp only [Act.put, List.setIfInBounds_toArray, List.set_cons_zero, List.set_cons_succ]
            obtain ⟨gg, AA, nn, cc, rfl, hi⟩ := f9 (hm ⟨9, .data⟩ (by simp) rfl)
            have hs := (kO.1 hd).1
            obtain ⟨k0, k1, k2, k3, k4⟩ := id hs
            go_simp
            exact hK.out _ _ ⟨u60, u61, u62, u63, u64, u65, u66, u67, u68, .agg #[.bool gg, .slice AA nn cc], (by simp only [Act.put, List.setIfInBounds_toArray, List.set_cons_zero, List.set_cons_succ]), Below.set2 HB (by omega) _ _, (fun h => f0 (by simpa using h)), (fun h => f1 (by simpa using h)), (fun h => (f2 (by simpa using h)).set2 hs rfl rfl _ _), (fun h => f3 (by simpa using h)), (fun h => f4 (by simpa using h)), (fun h => f5 (by simpa using h)), (fun h => f6 (by simpa using h)), (fun h => f7 (by simpa using h)), (fun h => (f8 (by simpa using h)).set2 hs rfl rfl _ _), (fun h => (f9 (by simpa using h)).set2 hs rfl rfl _ _), (by simpa using (kR).far2 (by omega) hs rfl rfl _ _), (by simpa using BlkI.near hi hs), (by simpa using (kT).far2 (by omega) hs rfl rfl _ _), (fun _ => by simpa using hm ⟨0, .phase⟩ (by simp) rfl), (fun _ => by simpa using hm ⟨2, .phase⟩ (by simp) rfl)⟩
        · intro d a2 w2 hall ⟨u60, u61, u62, u63, u64, u65, u66, u67, u68, u69, e, HB, f0, f1, f2, f3, f4, f5, f6, f7, f8, f9, kR, kO, kT, o10_0, o10_2⟩
          subst e
          simp only [Act.put, List.setIfInBounds_toArray, List.set_cons_zero, List.set_cons_succ]
          obtain rfl := f0 (hall _ (by decide))
          obtain rfl := f1 (hall _ (by decide))
          obtain rfl := f3 (hall _ (by decide))
          obtain rfl := f4 (hall _ (by decide))
          obtain rfl := f5 (hall _ (by decide))
          obtain rfl := f6 (hall _ (by decide))
          obtain rfl := f7 (hall _ (by decide))
          have eR := kR.1 rfl
          have eO := kO.2 (hall _ (by decide))
          have eT := kT.1 rfl
          go_wp2_with fail
          go_roundw
          case rel => exact ⟨b + 1, by omega, by go_num, HDN, HE.out _ eO, ⟨_, _, _, _, eT.1, eT.2⟩, eR, HB⟩
          case measure => simp [intOf] <;> omega
      · have hno := Lib.hid (HNO.out b hbD hx)
        have ⟨r0, r1, r2, r3, r4⟩ := SR
        by_cases hx2 : ((s)[b]'hbD).toNat < 48
        · have hq3 : (((s)[b].toNat : Nat) : Int) < 48 := by omega
          clear hx hd
          go_wp2
          exact bodyPost_ret (v := .tuple #[.agg #[.bool false, .slice none 0 0], .int .i64 4]) (by simp [results, r0, r1, Tryd.results21, go_sem]) rfl (.inr ⟨hno.out, _, _, _, _, rfl, isInt_zero' _, (BW.setCell (by simp) _).setCell (by simp) _⟩)
        · have hq3 : ¬ (((s)[b].toNat : Nat) : Int) < 48 := by omega
          have hq4 : 57 < (((s)[b].toNat : Nat) : Int) := by omega
          clear hx hd
          go_wp2
          exact bodyPost_ret (v := .tuple #[.agg #[.bool false, .slice none 0 0], .int .i64 4]) (by simp [results, r0, r1, Tryd.results21, go_sem]) rfl (.inr ⟨hno.out, _, _, _, _, rfl, isInt_zero' _, (BW.setCell (by simp) _).setCell (by simp) _⟩)
    · have hbM : b = s.size := by omega
      subst hbM
      obtain ⟨go, Ao, no, co, SO, IO⟩ := hO
      have ⟨s0, s1, s2, s3, s4⟩ := SO
      have ⟨r0, r1, r2, r3, r4⟩ := SR
      have hyes := HYES.out hpos (fun j h1 _ => hd.out j h1 (by exact h1))
      have hlv := dig_len (HLT.out (s.size) (by omega) hd.out) (by omega)
      have htk : (s).toList.take (s.size) = (s).toList := List.take_of_length_le (by rw [toL_len]; omega)
      rw [htk] at IO hlv
      have hzz := HZ.out
      obtain ⟨V, hV⟩ : ∃ V, V = dec (s).toList := ⟨_, rfl⟩
      rw [← hV] at IO hlv hzz
      have hl := IO.lim
      rw [Int.natAbs_natCast] at hl
      have HM := Lib.hid (made_val false Ao no co V _ (digs V) wr hl (by have := digs_len_le hlv; omega) (val_digs V) rfl)
      have HYZ := Lib.hid (And.intro hyes hzz)
      clear hV htk hyes hzz hd hT
      go_wp2_with fail
      refine HM.out.mono ?_
      rintro e w3 ⟨g3, A3, n3, c3, rfl, hi3, hb3⟩
      have ⟨t0, t1, t2, t3, t4⟩ := SR.after hb3
      have B3 := BW.trans (hb3.mono BW.size)
      clear s0 s1 s2 s3 s4 r0 r1 r2 r3 r4
      go_wp2
      refine bodyPost_ret (v := .tuple #[.agg #[.bool g3, .slice A3 n3 c3], .int .i64 0]) (by simp [results, t0, t1, Tryd.results21, go_sem]) rfl (.inl ⟨HYZ.out.1, _, _, _, _, rfl, ?_, ?_⟩)
      · rw [HYZ.out.2]; exact hi3.stored t0 t1 rfl rfl _ _
      · exact (B3.setCell (by simp) _).setCell (by simp) _

set_option maxHeartbeats 4000000 in
theorem rread_e0 (s : ByteArray) (w : World) (hs : s.size ≤ 100) (hsz : s.size = 0) : Calls Tryd.prog 21 #[.string s] w fun e w' => (readOk s ∧ RetIE w (readZ s) 0 e w') ∨ (¬ readOk s ∧ RetIE w 0 4 e w') := by
  have _hs := hs
  obtain ⟨hB, hD⟩ := neg_no s (fun _ => by omega)
  have hno := no_empty hD hsz
  clear hB hD
  have hemp : (s).toList.isEmpty = true := by
    have h := toL_len (s)
    rw [hsz] at h
    rw [List.isEmpty_iff]; exact List.length_eq_zero_iff.1 h
  have hemp2 : (s).toList = [] := by simpa using hemp

  have HN := Lib.hid hno
  clear hno
  have BB := (Below.refl w.heap.size w).alloc (Nat.le_refl _) (.cells #[.bool false, .slice none 0 0] 27)
  go_enter Tryd.func21, Tryd.ntmps21
  go_wp2_with fail
  all_goals try contradiction
  all_goals try (exfalso; rename_i hq; rw [hemp] at hq; cases hq; done)
  all_goals exact bodyPost_ret (v := .tuple #[.agg #[.bool false, .slice none 0 0], .int .i64 4]) (by simp [results, Tryd.results21, go_sem]) rfl (.inr ⟨HN.out, _, _, _, _, rfl, isInt_zero' _, BB⟩)

set_option maxHeartbeats 4000000 in
theorem rread_e1 (s : ByteArray) (w : World) (hs : s.size ≤ 100) (h1 : s.size = 1) (h45 : (s[0].toNat : Int) = 45) : Calls Tryd.prog 21 #[.string s] w fun e w' => (readOk s ∧ RetIE w (readZ s) 0 e w') ∨ (¬ readOk s ∧ RetIE w 0 4 e w') := by
  have _hs := hs
  obtain ⟨hB, hD⟩ := neg_yes s (by omega) (by omega)
  have hsz : (s.extract 1 s.size).size = 0 := by rw [size_ext s 1 s.size (Nat.le_refl _)]; omega
  have hno := no_empty hD hsz
  clear hB hD
  have hemp : ((s.extract 1 s.size)).toList.isEmpty = true := by
    have h := toL_len ((s.extract 1 s.size))
    rw [hsz] at h
    rw [List.isEmpty_iff]; exact List.length_eq_zero_iff.1 h
  have hemp2 : ((s.extract 1 s.size)).toList = [] := by simpa using hemp

  have HN := Lib.hid hno
  clear hno
  have BB := (Below.refl w.heap.size w).alloc (Nat.le_refl _) (.cells #[.bool false, .slice none 0 0] 27)
  go_enter Tryd.func21, Tryd.ntmps21
  go_wp2_with fail
  all_goals try contradiction
  all_goals try (exfalso; rename_i hq; rw [hemp] at hq; cases hq; done)
  all_goals exact bodyPost_ret (v := .tuple #[.agg #[.bool false, .slice none 0 0], .int .i64 4]) (by simp [results, Tryd.results21, go_sem]) rfl (.inr ⟨HN.out, _, _, _, _, rfl, isInt_zero' _, BB⟩)

set_option maxHeartbeats 4000000 in
theorem rread_e2 (s : ByteArray) (w : World) (hs : s.size ≤ 100) (h1 : 0 < s.size - 1) (h45 : ((s[0]'(by omega)).toNat : Int) = 45) (h48 : (((s.extract 1 s.size)[0]'(by rw [size_ext s 1 s.size (Nat.le_refl _)]; omega)).toNat : Int) = 48) : Calls Tryd.prog 21 #[.string s] w fun e w' => (readOk s ∧ RetIE w (readZ s) 0 e w') ∨ (¬ readOk s ∧ RetIE w 0 4 e w') := by
  have _hs := hs
  obtain ⟨hB, hD⟩ := neg_yes s (by omega) (by omega)
  have hsz : 0 < (s.extract 1 s.size).size := by rw [size_ext s 1 s.size (Nat.le_refl _)]; omega
  have hno := no_zero hD hB hsz (by omega) (.inl rfl)
  clear hB hD
  have hemp : ((s.extract 1 s.size)).toList.isEmpty = false := by
    have := toL_len ((s.extract 1 s.size))
    cases hq : ((s.extract 1 s.size)).toList with
    | nil => rw [hq] at this; simp at this; omega
    | cons x l => rfl
  have hemp2 : ¬ ((s.extract 1 s.size)).toList = [] := fun h => by rw [h] at hemp; simp at hemp

  have HN := Lib.hid hno
  clear hno
  have BB := (Below.refl w.heap.size w).alloc (Nat.le_refl _) (.cells #[.bool false, .slice none 0 0] 27)
  go_enter Tryd.func21, Tryd.ntmps21
  go_wp2_with fail
  all_goals try contradiction
  all_goals try (exfalso; rename_i hq; rw [hemp] at hq; cases hq; done)
  all_goals exact bodyPost_ret (v := .tuple #[.agg #[.bool false, .slice none 0 0], .int .i64 4]) (by simp [results, Tryd.results21, go_sem]) rfl (.inr ⟨HN.out, _, _, _, _, rfl, isInt_zero' _, BB⟩)

set_option maxHeartbeats 4000000 in
theorem rread_e3 (s : ByteArray) (w : World) (hs : s.size ≤ 100) (h1 : 1 < s.size) (h48 : ((s[0]'(by omega)).toNat : Int) = 48) : Calls Tryd.prog 21 #[.string s] w fun e w' => (readOk s ∧ RetIE w (readZ s) 0 e w') ∨ (¬ readOk s ∧ RetIE w 0 4 e w') := by
  have _hs := hs
  obtain ⟨hB, hD⟩ := neg_no s (fun _ => by omega)
  have hno := no_zero hD hB (by omega) (by omega) (.inr h1)
  clear hB hD
  have hemp : (s).toList.isEmpty = false := by
    have := toL_len (s)
    cases hq : (s).toList with
    | nil => rw [hq] at this; simp at this; omega
    | cons x l => rfl
  have hemp2 : ¬ (s).toList = [] := fun h => by rw [h] at hemp; simp at hemp

  have HN := Lib.hid hno
  clear hno
  have BB := (Below.refl w.heap.size w).alloc (Nat.le_refl _) (.cells #[.bool false, .slice none 0 0] 27)
  go_enter Tryd.func21, Tryd.ntmps21
  go_wp2_with fail
  all_goals try contradiction
  all_goals try (exfalso; rename_i hq; rw [hemp] at hq; cases hq; done)
  all_goals exact bodyPost_ret (v := .tuple #[.agg #[.bool false, .slice none 0 0], .int .i64 4]) (by simp [results, Tryd.results21, go_sem]) rfl (.inr ⟨HN.out, _, _, _, _, rfl, isInt_zero' _, BB⟩)

theorem rread_any (s : ByteArray) (w : World) (hs : s.size ≤ 100) : Calls Tryd.prog 21 #[.string s] w fun e w' => (readOk s ∧ RetIE w (readZ s) 0 e w') ∨ (¬ readOk s ∧ RetIE w 0 4 e w') := by
  rcases Nat.eq_zero_or_pos s.size with h0 | h0
  · exact rread_e0 s w hs h0
  by_cases h45 : s[0].toNat = 45
  · by_cases h1 : s.size = 1
    · exact rread_e1 s w hs h1 (by omega)
    · have hsz : 0 < (s.extract 1 s.size).size := by rw [size_ext s 1 s.size (Nat.le_refl _)]; omega
      by_cases h48 : ((s.extract 1 s.size)[0]'hsz).toNat = 48
      · exact rread_e2 s w hs (by omega) (by omega) (by omega)
      · exact rread_neg s w hs h0 h45 (by omega) (by omega) (fun h => h48 h.1)
  · by_cases h48 : s[0].toNat = 48
    · rcases Nat.lt_or_ge 1 s.size with h1 | h1
      · exact rread_e3 s w hs h1 (by omega)
      · exact rread_zero s w hs h0 h48 (by omega) (fun h => by rcases h.2 with h2 | h2; cases h2; omega)
    · exact rread_dig s w hs h0 (by omega) (by omega) (fun h => h48 h.1)
end Go.Proofs.YtnlmdjbakcjhbaaDoor
