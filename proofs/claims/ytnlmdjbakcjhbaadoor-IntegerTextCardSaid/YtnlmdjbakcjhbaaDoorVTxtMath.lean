/- The decimal text of an integer and what Read makes of it. -/
import Derived.Test.YtnlmdjbakcjhbaaDoorVRRead
import Derived.Test.YtnlmdjbakcjhbaaDoorVG9DivMod
import Derived.Test.YtnlmdjbakcjhbaaDoorVG24Sz
namespace Go.Proofs.YtnlmdjbakcjhbaaDoor
open Go.RowKit
theorem tx_dec (n : Nat) : dec (tx n) = n := by
  induction n using Nat.strongRecOn with
  | ind n ih =>
    rw [tx]
    split
    · rename_i h
      simp [dec, UInt8.toNat_ofNat', Nat.mod_eq_of_lt (show 48 + n < 256 by omega)]
    · rename_i h
      rw [dec_snoc, ih (n / 10) (by omega), UInt8.toNat_ofNat', Nat.mod_eq_of_lt (by omega)]
      omega
theorem tx_ne (n : Nat) : tx n ≠ [] := by
  rw [tx]; split <;> simp
theorem tx_digL (n : Nat) : digL (tx n) := by
  induction n using Nat.strongRecOn with
  | ind n ih =>
    rw [tx]
    split
    · rename_i h
      intro c hc
      rw [List.mem_singleton] at hc
      subst hc
      rw [UInt8.toNat_ofNat', Nat.mod_eq_of_lt (by omega)]
      omega
    · rename_i h
      intro c hc
      rcases List.mem_append.1 hc with h1 | h1
      · exact ih (n / 10) (by omega) c h1
      · rw [List.mem_singleton] at h1
        subst h1
        rw [UInt8.toNat_ofNat', Nat.mod_eq_of_lt (by omega)]
        omega
theorem tx_head (n : Nat) (hn : n ≠ 0) : (tx n).head? ≠ some 48 := by
  induction n using Nat.strongRecOn with
  | ind n ih =>
    rw [tx]
    split
    · rename_i h
      intro he
      have h1 := congrArg UInt8.toNat (Option.some.inj (by simpa using he : some (UInt8.ofNat (48 + n)) = some 48))
      rw [UInt8.toNat_ofNat', Nat.mod_eq_of_lt (by omega)] at h1
      have : (48 : UInt8).toNat = 48 := rfl
      omega
    · rename_i h
      have := ih (n / 10) (by omega) (by omega)
      cases hq : tx (n / 10) with
      | nil => exact absurd hq (tx_ne _)
      | cons x l => rw [hq] at this; simpa using this
theorem tx_len : ∀ j n, n < 10 ^ (j + 1) → (tx n).length ≤ j + 1
  | 0, n, h => by rw [tx, if_pos (by omega)]; simp
  | j + 1, n, h => by
    rw [tx]
    split
    · simp
    · have := tx_len j (n / 10) (by rw [Nat.pow_succ] at h; omega)
      simp only [List.length_append, List.length_singleton]
      omega
theorem toL_eq {s t : ByteArray} (h : s.toList = t.toList) : s = t := by
  rw [ByteArray.toList_eq, ByteArray.toList_eq] at h
  apply ByteArray.ext
  exact Array.toList_inj.1 h
theorem txt_toL (z : Int) : (txt z).toList = (if z < 0 then [45] else []) ++ tx z.natAbs := by
  rw [ByteArray.toList_eq]; rfl
theorem get_of {s : ByteArray} {l : List UInt8} (h : s.toList = l) (k : Nat) (hk : k < s.size) : l[k]? = some s[k] := by rw [← h]; exact toL_get s k hk
theorem dig_of {s : ByteArray} (h : digL s.toList) : allDig s := by
  intro j hj
  have := get_of rfl j hj
  exact h _ (List.mem_of_getElem? this)
theorem dig_to {s : ByteArray} (h : allDig s) : digL s.toList := by
  intro c hc
  obtain ⟨j, hj⟩ := List.getElem?_of_mem hc
  have hjs : j < s.size := by
    rcases Nat.lt_or_ge j s.size with h0 | h0
    · exact h0
    · rw [List.getElem?_eq_none (by rw [toL_len]; exact h0)] at hj; cases hj
  rw [toL_get s j hjs] at hj
  cases hj
  exact h j hjs
theorem head_of {s : ByteArray} (h : 0 < s.size) : s.toList.head? = some s[0] := by
  rw [List.head?_eq_getElem?]; exact toL_get s 0 h
/-- The two parts of a text. -/
theorem parts (z : Int) : (digOf (txt z)).toList = tx z.natAbs ∧ negOf (txt z) = decide (z < 0) := by
  have hL := txt_toL z
  by_cases h : z < 0
  · rw [if_pos h] at hL
    have hs : 0 < (txt z).size := by rw [← toL_len, hL]; simp
    have h0 := get_of hL 0 hs
    have h45 : (txt z)[0].toNat = 45 := by
      simp only [List.cons_append, List.nil_append, List.getElem?_cons_zero, Option.some.injEq] at h0
      rw [← h0]; rfl
    obtain ⟨h1, h2⟩ := neg_yes (txt z) hs h45
    refine ⟨?_, by rw [h1, decide_eq_true h]⟩
    rw [h2, toL_ext, hL]
    have hl := toL_len (txt z)
    rw [hL] at hl
    simp only [List.cons_append, List.nil_append, List.length_cons] at hl
    simp only [List.cons_append, List.nil_append, List.drop_succ_cons, List.drop_zero]
    exact List.take_of_length_le (by omega)
  · rw [if_neg h, List.nil_append] at hL
    obtain ⟨h1, h2⟩ := neg_no (txt z) (fun hs h45 => by
      have h0 := get_of hL 0 hs
      have := tx_digL z.natAbs _ (List.mem_of_getElem? h0)
      omega)
    exact ⟨by rw [h2, hL], by rw [h1, decide_eq_false h]⟩
theorem txt_ok (z : Int) : readOk (txt z) ∧ readZ (txt z) = z := by
  obtain ⟨h1, h2⟩ := parts z
  constructor
  · rw [ok_iff]
    have hs : 0 < (digOf (txt z)).size := by
      rw [← toL_len, h1]
      exact List.length_pos_iff.2 (tx_ne _)
    refine ⟨hs, dig_of (by rw [h1]; exact tx_digL _), ?_⟩
    rintro ⟨_, h3, h4⟩
    have h5 := head_of hs
    rw [h1] at h5
    have hz : z.natAbs = 0 := Classical.byContradiction fun h => tx_head _ h (by rw [h5, show (digOf (txt z))[0] = 48 from UInt8.toNat_inj.1 h3])
    rcases h4 with h4 | h4
    · rw [h2] at h4
      have := of_decide_eq_true h4
      omega
    · rw [← toL_len, h1, hz, tx, if_pos (by omega)] at h4
      simp at h4
  · unfold readZ
    rw [h1, h2, tx_dec]
    unfold zOf
    by_cases h : z < 0
    · rw [decide_eq_true h, if_pos rfl]; omega
    · rw [decide_eq_false h, if_neg (by simp)]; omega
theorem read_txt (s : ByteArray) (h : readOk s) : txt (readZ s) = s := by
  have hk := (ok_iff s).1 h
  obtain ⟨h0, hd, hn⟩ := hk
  have hD : (digOf s).toList = tx (dec (digOf s).toList) := by
    by_cases h48 : (digOf s)[0].toNat = 48
    · have h1 : (digOf s).size = 1 := by
        have : ¬ 1 < (digOf s).size := fun h => hn ⟨h0, h48, .inr h⟩
        omega
      have h2 := take_snoc (digOf s) 0 h0
      rw [show (digOf s)[0] = 48 from UInt8.toNat_inj.1 h48, List.take_of_length_le (by rw [toL_len]; omega)] at h2
      rw [h2]
      simp [dec]
      rw [tx, if_pos (by omega)]
      rfl
    · exact tx_of _ _ rfl (by rw [← List.length_pos_iff, toL_len]; exact h0) (dig_to hd) (by
        rw [head_of h0]
        exact fun e => h48 (by rw [Option.some.inj e]; rfl))
  obtain ⟨V, hV⟩ : ∃ V, V = dec (digOf s).toList := ⟨_, rfl⟩
  have hz : readZ s = zOf (negOf s) V := by rw [hV]; rfl
  rw [← hV] at hD
  apply toL_eq
  rw [txt_toL, hz]
  by_cases h45 : ∃ hs : 0 < s.size, s[0].toNat = 45
  · obtain ⟨hs, h45⟩ := h45
    obtain ⟨h1, h2⟩ := neg_yes s hs h45
    have hV0 : V ≠ 0 := by
      intro h3
      rw [h3, tx, if_pos (by omega)] at hD
      have h4 := head_of h0
      rw [hD] at h4
      exact hn ⟨h0, by rw [← Option.some.inj h4]; rfl, .inl h1⟩
    rw [h1]
    have hzn : zOf true V < 0 := by unfold zOf; rw [if_pos rfl]; omega
    have hza : (zOf true V).natAbs = V := by unfold zOf; rw [if_pos rfl]; omega
    rw [if_pos hzn, hza, ← hD, h2, toL_ext]
    have hl := toL_len s
    have h5 := head_of hs
    rw [show s[0] = 45 from UInt8.toNat_inj.1 h45] at h5
    cases hq : s.toList with
    | nil => rw [hq] at h5; cases h5
    | cons x l =>
      rw [hq] at h5 hl
      simp only [List.head?_cons, Option.some.injEq] at h5
      subst h5
      simp only [List.length_cons] at hl
      simp only [List.drop_succ_cons, List.drop_zero, List.cons_append, List.nil_append]
      rw [List.take_of_length_le (by omega)]
  · obtain ⟨h1, h2⟩ := neg_no s (fun hs h => h45 ⟨hs, h⟩)
    rw [h1]
    have hzn : ¬ zOf false V < 0 := by unfold zOf; rw [if_neg (by simp)]; omega
    have hza : (zOf false V).natAbs = V := by unfold zOf; rw [if_neg (by simp)]; omega
    rw [if_neg hzn, hza, ← hD, h2, List.nil_append]
theorem txt_size {k : Nat} {z : Int} (hz : Sz k z) (hk : k ≤ 12) : (txt z).size ≤ 200 := by
  have h1 : z.natAbs < 4294967296 ^ 12 := Nat.lt_of_lt_of_le hz.lt (Nat.pow_le_pow_right (by decide) hk)
  have h2 : 4294967296 ^ 12 ≤ 10 ^ (115 + 1) := by decide
  have h3 := tx_len 115 z.natAbs (Nat.lt_of_lt_of_le h1 h2)
  rw [← toL_len, txt_toL]
  split <;> simp only [List.length_append, List.length_cons, List.length_nil] <;> omega
theorem readZ_sz {s : ByteArray} (hs : s.size ≤ 100) (h : readOk s) : Sz 12 (readZ s) := by
  obtain ⟨h0, hd, _⟩ := (ok_iff s).1 h
  have h1 := digOf_size s
  have h2 := dig_len (dec_lt' (digOf s) (digOf s).size (Nat.le_refl _) (fun j hj _ => hd j hj)) (by omega)
  rw [List.take_of_length_le (by rw [toL_len]; omega)] at h2
  refine Sz.of ?_ (by decide)
  unfold readZ
  have h3 : (zOf (negOf s) (dec (digOf s).toList)).natAbs = dec (digOf s).toList := by
    unfold zOf; split <;> omega
  rw [h3]
  omega
end Go.Proofs.YtnlmdjbakcjhbaaDoor
