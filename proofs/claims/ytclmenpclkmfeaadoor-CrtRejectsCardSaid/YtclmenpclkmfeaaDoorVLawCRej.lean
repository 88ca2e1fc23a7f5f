/- The walk of the law CrtRejects, given what its fixed examples return. -/
import Derived.Test.YtclmenpclkmfeaaDoorVCrtO
import Derived.Test.YtclmenpclkmfeaaDoorVCrtSan
namespace Go.Proofs.YtclmenpclkmfeaaDoor
open Go.RowKit Go.Maps
theorem flatR_set : ∀ (L : List (Nat × Nat)) (i x v : Nat), i < L.length → ((flatR L).set (i * 2) (.int .u64 (x : Int))).set (i * 2 + 1) (.int .u64 (v : Int)) = flatR (L.set i (x, v))
  | [], i, _, _, h => absurd h (by simp)
  | y :: l, 0, x, v, _ => rfl
  | y :: l, i + 1, x, v, h => by
    have := flatR_set l i x v (by simpa using h)
    rw [show (i + 1) * 2 = i * 2 + 1 + 1 by omega]
    simp only [flatR, List.set_cons_succ]
    rw [this]
theorem flatR_set0 (L : List (Nat × Nat)) (i x : Nat) (h : i < L.length) : (flatR L).set (i * 2) (.int .u64 (x : Int)) = flatR (L.set i (x, (L.getD i (0, 0)).2)) := by
  rw [← flatR_set L i x _ h]
  have e := (flatR_get L i h).2
  obtain ⟨h1, h2⟩ := List.getElem?_eq_some_iff.1 e
  have h3 : ((flatR L).set (i * 2) (.int .u64 (x : Int)))[i * 2 + 1]? = some (.int .u64 ((L.getD i (0, 0)).2 : Int)) := by
    rw [List.getElem?_set_ne (by omega)]; exact e
  obtain ⟨h4, h5⟩ := List.getElem?_eq_some_iff.1 h3
  rw [← h5, List.set_getElem_self]
theorem flatR_set1 (L : List (Nat × Nat)) (i v : Nat) (h : i < L.length) : (flatR L).set (i * 2 + 1) (.int .u64 (v : Int)) = flatR (L.set i ((L.getD i (0, 0)).1, v)) := by
  rw [← flatR_set L i _ v h]
  have e := (flatR_get L i h).1
  obtain ⟨h1, h2⟩ := List.getElem?_eq_some_iff.1 e
  rw [← h2, List.set_getElem_self]
/-- A store into a row of residues of the call's own. -/
theorem OwnR.put {w : World} {base g n c j : Nat} {L M : List (Nat × Nat)} {u : Value} (h : OwnR w base (.slice (some ⟨g, 0, none⟩) n c) n L) (_hj : j < n * 2) (hM : (flatR L).set j u = flatR M) (hl : M.length = L.length) : OwnR (w.setCell ⟨g, j, none⟩ u) base (.slice (some ⟨g, 0, none⟩) n c) n M := by
  refine ⟨by rw [flatR_len, hl, ← flatR_len]; exact h.1, ?_⟩
  rcases h.2 with ⟨e1, _⟩ | ⟨g2, cap, cur, e1, hb, hg, hn, hm, hs, ht⟩
  · cases e1
  · cases e1
    refine .inr ⟨g, c, cur.setIfInBounds j u, rfl, hb, ?_, hn, hm, by simpa using hs, ?_⟩
    · simp [World.setCell, Array.getElem?_modify, hg]
    · rw [Array.toList_setIfInBounds, List.take_set, ht, hM]
theorem not_at {L : List (Nat × Nat)} {i : Nat} (hi : i < L.length) (h : (L.getD i (0, 0)).1 ≤ (L.getD i (0, 0)).2 ∨ primeF (L.getD i (0, 0)).1 = false) : ¬ OkR L := fun hk => by
  obtain ⟨_, h1, h2⟩ := hk i hi
  rcases h with h | h
  · omega
  · rw [h] at h2; cases h2
theorem not_dup {L : List (Nat × Nat)} {k : Nat} (hk : k < L.length) : ¬ OkR (L ++ [((L.getD k (0, 0)).1, 0)]) := fun h => by
  have := (okR_iff.1 h).2 k L.length hk (by simp)
  rw [List.getD_eq_getElem?_getD, List.getElem?_append_left hk, List.getD_eq_getElem?_getD, List.getElem?_append_right (Nat.le_refl _)] at this
  simp at this
theorem getD_set {L : List (Nat × Nat)} {i : Nat} (hi : i < L.length) (y : Nat × Nat) : (L.set i y).getD i (0, 0) = y := by
  rw [List.getD_eq_getElem?_getD, List.getElem?_set_self hi]; rfl
theorem set_bd {L : List (Nat × Nat)} {i : Nat} {y : Nat × Nat} (h : ∀ x ∈ L, x.1 < 18446744073709551616 ∧ x.2 < 18446744073709551616) (hy : y.1 < 18446744073709551616 ∧ y.2 < 18446744073709551616) : ∀ x ∈ L.set i y, x.1 < 18446744073709551616 ∧ x.2 < 18446744073709551616 := fun x hx => by
  rcases List.mem_or_eq_of_mem_set hx with h1 | h1
  · exact h x h1
  · rw [h1]; exact hy
def bad6 : List Nat := [0, 1, 4, 9, 2147483646, 4294967311]
set_option maxRecDepth 100000 in
theorem bad6_no : ∀ p ∈ bad6, primeF p = false := by
  intro p hp
  simp only [bad6, List.mem_cons, List.not_mem_nil, or_false] at hp
  rcases hp with rfl | rfl | rfl | rfl | rfl | rfl <;> (rw [primeF_eq]; kernel_rfl)
theorem bad6_lt : ∀ p ∈ bad6, p < 18446744073709551616 := by decide
theorem cons_f (A : Option Addr) (n c : Nat) (L : List (Nat × Nat)) (ga : Bool) (Aa : Option Addr) (na ca : Nat) {z : Int} (w : World) (h : ResL w A n L) (ha : IsInt w ga Aa na ca z) (hn : n ≤ 1000) (hT : TabW w) (h5 : TabN w.heap.size) (hno : ¬ OkR L) :
    Calls Tryd.prog 20 #[.slice A n c, .agg #[.bool ga, .slice Aa na ca]] w fun e w' => e = .returned (.bool false) ∧ Below w.heap.size w w' :=
  cons_b A n c L ga Aa na ca false w h ha hn hT h5 ⟨(fun h => by cases h), fun h => absurd h.1 hno⟩
theorem OwnR.at_ {w : World} {base g n c i : Nat} {L : List (Nat × Nat)} (h : OwnR w base (.slice (some ⟨g, 0, none⟩) n c) n L) (hi : i < n) :
    w.cell? ⟨g, i * 2, none⟩ = some (.int .u64 ((L.getD i (0, 0)).1 : Int)) ∧ w.cell? ⟨g, i * 2 + 1, none⟩ = some (.int .u64 ((L.getD i (0, 0)).2 : Int)) ∧ w.frozen? ⟨g, i * 2, none⟩ = false ∧ w.frozen? ⟨g, i * 2 + 1, none⟩ = false := by
  have hl := h.1
  rw [flatR_len] at hl
  have e := flatR_get L i (by omega)
  have c0 := World.ownsRow.cells h (g := g) rfl _ _ e.1
  have c1 := World.ownsRow.cells h (g := g) rfl _ _ e.2
  rw [Addr.add_lit, Nat.zero_add] at c0 c1
  refine ⟨c0, c1, ?_, ?_⟩ <;>
  · rcases h.2 with ⟨e1, _⟩ | ⟨g2, cap, cur, e1, _, hg, _⟩
    · cases e1
    · cases e1
      simp [World.frozen?, hg]
theorem bad6_cell (w : World) (j : Nat) (hj : j < 6) : (w.alloc (.cells #[.int .u64 0, .int .u64 1, .int .u64 4, .int .u64 9, .int .u64 2147483646, .int .u64 4294967311] 39)).cell? ⟨w.heap.size, j, none⟩ = some (.int .u64 ((bad6.getD j 0 : Nat) : Int)) := by
  have hjs : j = 0 ∨ j = 1 ∨ j = 2 ∨ j = 3 ∨ j = 4 ∨ j = 5 := by omega
  rcases hjs with rfl | rfl | rfl | rfl | rfl | rfl <;> simp [bad6]
theorem ResL.of_row {w : World} {base g n c : Nat} {L : List (Nat × Nat)} (h : OwnR w base (.slice (some ⟨g, 0, none⟩) n c) n L) (hb : ∀ x ∈ L, x.1 < 18446744073709551616 ∧ x.2 < 18446744073709551616) : ResL w (some ⟨g, 0, none⟩) n L := h.resL hb
set_option maxRecDepth 1000000 in
set_option maxHeartbeats 8000000 in
theorem law_crej (HSan : SanC) (A0 : Option Addr) (n0 c0 : Nat) (m p q : Nat) (w : World) (ha : RawsL w A0 n0) (hm : m < 256) (hp : p < 256) (hq : q < 256) (hT : TabW w) (h5 : TabN w.heap.size) :
    Calls Tryd.prog 6 #[.slice A0 n0 c0, .int .u8 (m : Int), .agg #[.int .u8 (p : Int), .int .u8 (q : Int)]] w fun e w' => e = .returned (.bool true) ∧ Below w.heap.size w w' := by
  have B := (Below.refl w.heap.size w).alloc (Nat.le_refl _) (.cells #[.int .u8 (p : Int), .int .u8 (q : Int)] 52)
  have X := Slot2.new w (.int .u8 (p : Int)) (.int .u8 (q : Int)) 52
  have HSn := Lib.hid (HSan _ (hT.below B h5) (h5.le B.size))
  clear HSan
  go_enter Tryd.func6, Tryd.ntmps6
  generalize hW : w.alloc (.cells #[.int .u8 (p : Int), .int .u8 (q : Int)] 52) = W0 at *
  go_wp2_with fail
  try rw [hW]
  clear hW
  (with_reducible refine HSn.out.mono ?_)
  rintro e w1 ⟨rfl, b1⟩
  replace B := B.trans (b1.mono B.size)
  replace X := X.after b1
  have HM : Hid (Calls Tryd.prog 11 #[.slice A0 n0 c0, .int .i64 8] w1 (RetMs w1 8)) := rmade_s A0 n0 c0 8 w1 (ha.below B) (by decide)
  clear HSn b1 ha
  go_wp2_with fail
  (with_reducible refine HM.out.mono ?_)
  rintro e w2 ⟨g, n, c, L, rfl, O, hn, b2, hL⟩
  replace B := B.trans (b2.mono B.size)
  replace X := X.after b2
  have hok := hL.out.1.1
  have hpr := hL.out.1.2
  have hbd := hok.lt2 hpr
  have hln : L.length = n := (O.resL hbd).len
  clear HM b2
  rcases Nat.eq_zero_or_pos n with hn0 | hn0
  · subst hn0
    go_wp2_with fail
    go_ret
    exact ⟨rfl, B⟩
  obtain ⟨i, hie⟩ : ∃ i, m % n = i := ⟨_, rfl⟩
  obtain ⟨k, hke⟩ : ∃ k, p % n = k := ⟨_, rfl⟩
  obtain ⟨j, hje⟩ : ∃ j, p % 6 = j := ⟨_, rfl⟩
  have hi : i < n := by rw [← hie]; exact Nat.mod_lt _ hn0
  have hk : k < n := by rw [← hke]; exact Nat.mod_lt _ hn0
  have hj : j < 6 := by rw [← hje]; exact Nat.mod_lt _ (by decide)
  have hwm : IntKind.i64.wrap (m : Int) = (m : Int) := by rw [IntKind.wrap_i64]; omega
  have hwp : IntKind.i64.wrap (p : Int) = (p : Int) := by rw [IntKind.wrap_i64]; omega
  have hwu : IntKind.u64.wrap (p : Int) = (p : Int) := by rw [IntKind.wrap_u64]; omega
  have hti : (m : Int).tmod (n : Int) = (i : Int) := by rw [Int.tmod_eq_emod_of_nonneg (by omega), ← hie, Int.natCast_emod]
  have htk : (p : Int).tmod (n : Int) = (k : Int) := by rw [Int.tmod_eq_emod_of_nonneg (by omega), ← hke, Int.natCast_emod]
  have htj : (p : Int).tmod 6 = (j : Int) := by rw [Int.tmod_eq_emod_of_nonneg (by omega)]; omega
  have hj6 : (j : Int) < 6 := by omega
  have hnz : ((n : Int) == 0) = false := by simp; omega
  have hnne : n ≠ 0 := by omega
  have hil : i < L.length := by omega
  have hkl : k < L.length := by omega
  obtain ⟨P0, hP0⟩ : ∃ x, (L.getD i (0, 0)).1 = x := ⟨_, rfl⟩
  have hPl := hpr.lt _ (getD_mem hil)
  have hPs := hL.out.2 _ (getD_mem hil)
  rw [hP0] at hPl hPs
  go_upto_region 5 with (fail)
  have HS : Hid (∀ V, Below w2.heap.size w2 V → V.cell? ⟨w.heap.size, 0, none⟩ = some (.int .u8 (p : Int))) := fun V hV => (X.after hV).1
  have Dr0 : Below w2.heap.size w2 w2.drew := (Below.refl _ _).drew
  refine wp_region_seq (.pre [(0, true), (1, true), (2, true), (3, true), (4, true), (5, true), (6, true), (7, true), (8, true), (9, true), (10, true), (11, true), (12, true)] .done) (fun W => W.cell? ⟨w.heap.size, 0, none⟩ = some (.int .u8 (p : Int))) (by kernel_rfl) (by kernel_rfl) ?_ (by kernel_rfl) (HS.out _ Dr0) ?_
  · refine chk_pre _ _ _ (by as_aux_lemma => kernel_rfl) ?_
    exact (by as_aux_lemma => kernel_rfl)
  refine seq_take _ ?_ rfl (Or.inl ⟨by rfl, ?_⟩) ?_
  rotate_left
  · (intro w hSw; (try dsimp only at hSw); go_simp; (try with_reducible rfl))
  try simp only [Act.put, List.setIfInBounds_toArray, List.set_cons_zero, List.set_cons_succ]
  refine seq_take _ ?_ rfl (Or.inl ⟨by rfl, ?_⟩) ?_
  rotate_left
  · (intro w hSw; (try dsimp only at hSw); go_simp; (try with_reducible rfl))
  try simp only [Act.put, List.setIfInBounds_toArray, List.set_cons_zero, List.set_cons_succ]
  refine seq_take _ ?_ rfl (Or.inl ⟨by rfl, ?_⟩) ?_
  rotate_left
  · (intro w hSw; (try dsimp only at hSw); go_simp; (try with_reducible rfl))
  try simp only [Act.put, List.setIfInBounds_toArray, List.set_cons_zero, List.set_cons_succ]
  refine seq_take _ ?_ rfl (Or.inl ⟨by rfl, ?_⟩) ?_
  rotate_left
  · (intro w hSw; (try dsimp only at hSw); go_simp; (try with_reducible rfl))
  try simp only [Act.put, List.setIfInBounds_toArray, List.set_cons_zero, List.set_cons_succ]
  refine seq_take _ ?_ rfl (Or.inl ⟨by rfl, ?_⟩) ?_
  rotate_left
  · (intro w hSw; (try dsimp only at hSw); go_simp; (try with_reducible rfl))
  try simp only [Act.put, List.setIfInBounds_toArray, List.set_cons_zero, List.set_cons_succ]
  refine seq_take _ ?_ rfl (Or.inl ⟨by rfl, ?_⟩) ?_
  rotate_left
  · (intro w hSw; (try dsimp only at hSw); go_simp; (try with_reducible rfl))
  try simp only [Act.put, List.setIfInBounds_toArray, List.set_cons_zero, List.set_cons_succ]
  refine seq_take _ ?_ rfl (Or.inl ⟨by rfl, ?_⟩) ?_
  rotate_left
  · (intro w hSw; (try dsimp only at hSw); go_simp; (try with_reducible rfl))
  try simp only [Act.put, List.setIfInBounds_toArray, List.set_cons_zero, List.set_cons_succ]
  refine seq_take _ ?_ rfl (Or.inl ⟨by rfl, ?_⟩) ?_
  rotate_left
  · (intro w hSw; (try dsimp only at hSw); go_simp; (try with_reducible rfl))
  try simp only [Act.put, List.setIfInBounds_toArray, List.set_cons_zero, List.set_cons_succ]
  refine seq_take _ ?_ rfl (Or.inl ⟨by rfl, ?_⟩) ?_
  rotate_left
  · (intro w hSw; (try dsimp only at hSw); go_simp; (try with_reducible rfl))
  try simp only [Act.put, List.setIfInBounds_toArray, List.set_cons_zero, List.set_cons_succ]
  refine seq_take _ ?_ rfl (Or.inl ⟨by rfl, ?_⟩) ?_
  rotate_left
  · (intro w hSw; (try dsimp only at hSw); go_simp; (try with_reducible rfl))
  try simp only [Act.put, List.setIfInBounds_toArray, List.set_cons_zero, List.set_cons_succ]
  refine seq_take _ ?_ rfl (Or.inl ⟨by rfl, ?_⟩) ?_
  rotate_left
  · (intro w hSw; (try dsimp only at hSw); go_simp; (try with_reducible rfl))
  try simp only [Act.put, List.setIfInBounds_toArray, List.set_cons_zero, List.set_cons_succ]
  refine seq_take _ ?_ rfl (Or.inl ⟨by rfl, ?_⟩) ?_
  rotate_left
  · (intro w hSw; (try dsimp only at hSw); go_simp; (try with_reducible rfl))
  try simp only [Act.put, List.setIfInBounds_toArray, List.set_cons_zero, List.set_cons_succ]
  refine seq_take _ ?_ rfl (Or.inl ⟨by rfl, ?_⟩) ?_
  rotate_left
  · (intro w hSw; (try dsimp only at hSw); go_simp; (try with_reducible rfl))
  try simp only [Act.put, List.setIfInBounds_toArray, List.set_cons_zero, List.set_cons_succ]
  refine NoPanic.normal ?_
  replace O := O.keep Dr0
  replace X := X.after Dr0
  replace B := B.trans (Dr0.mono B.size)
  generalize w2.drew = W5 at *
  clear Dr0 HS hie hke hje
  have hgl : g < W5.heap.size := (World.ownsRow.lt O g rfl).2
  have hXl : w.heap.size < W5.heap.size := X.2.2.2.2
  have e5 := OwnR.empty W5 W5.heap.size (Nat.le_refl _)
  have a5 := (Below.refl W5.heap.size W5).alloc (Nat.le_refl _) (.cells #[] 41)
  have O5 := O.keep a5
  have X5 := X.after a5
  have B5 := B.trans (a5.mono B.size)
  clear O X
  have hqs : (q : Int) % 4 = 0 ∨ (q : Int) % 4 = 1 ∨ (q : Int) % 4 = 2 ∨ (q : Int) % 4 = 3 := by omega
  go_upto_region 7 with (at_builtin; refine wpList_copy_r _ rfl (.tmp 32) (.tmp 33) rfl W5.heap.size W5.heap.size 0 rfl e5 w1.heap.size g n c L rfl O5 (by omega) a5.size ?_; intro g2 c2 w6 O6 hg6; have B6 : Below w.heap.size w w6 := B5.grown hg6 B5.size (fun j hj => by cases hj; exact B.size); have X6 := X5.grown hg6 (by simp; omega); have P6 := O5.stays hg6 (by omega); have ⟨x0, x1, _, _, _⟩ := X6)
  have hg2 : W5.heap.size ≤ g2 := (World.ownsRow.lt O6 g2 rfl).1
  have hs6 := hg6.size
  rw [World.size_alloc] at hs6
  clear e5 a5 O5 X5 B5 B
  obtain ⟨v0, hv0⟩ : ∃ x, (L.getD i (0, 0)).2 = x := ⟨_, rfl⟩
  have hv64 : v0 < 18446744073709551616 := by rw [← hv0]; exact (hbd _ (getD_mem hil)).2
  rcases hqs with hq4 | hq4 | hq4 | hq4
  · go_upto_region 10 with (fail)
    have a7 := (Below.refl w6.heap.size w6).alloc (Nat.le_refl _) (.cells #[.int .u64 0, .int .u64 1, .int .u64 4, .int .u64 9, .int .u64 2147483646, .int .u64 4294967311] 39)
    have O7 := O6.keep a7
    have X7 := X6.after a7
    have B7 := B6.trans (a7.mono B6.size)
    have bc := bad6_cell w6 j hj
    obtain ⟨x, hx⟩ : ∃ x, bad6.getD j 0 = x := ⟨_, rfl⟩
    have hmem : x ∈ bad6 := by
      rw [← hx, List.getD_eq_getElem?_getD, List.getElem?_eq_getElem (show j < bad6.length from hj)]
      exact List.getElem_mem _
    rw [hx] at bc
    have hxno := bad6_no x hmem
    have hxl := bad6_lt x hmem
    have ⟨d0, d1, f0, f1⟩ := O7.at_ hi
    have ⟨y0, y1, _, _, _⟩ := X7
    clear x0 x1
    go_upto_region 11 with (fail)
    have O8 := O7.put (j := i * 2) (by omega) (flatR_set0 L i x hil) (by simp)
    have B8 := B7.setCell (p := ⟨g2, i * 2, none⟩) (show w.heap.size ≤ g2 by omega) (.int .u64 (x : Int))
    generalize (w6.alloc (.cells #[.int .u64 0, .int .u64 1, .int .u64 4, .int .u64 9, .int .u64 2147483646, .int .u64 4294967311] 39)).setCell ⟨g2, i * 2, none⟩ (.int .u64 (x : Int)) = W7 at *
    obtain ⟨M, hM⟩ : ∃ M, L.set i (x, (L.getD i (0, 0)).2) = M := ⟨_, rfl⟩
    rw [hM] at O8
    have hMi : M.getD i (0, 0) = (x, v0) := by rw [← hM, hv0]; exact getD_set hil _
    have hMl : i < M.length := by rw [← hM, List.length_set]; exact hil
    have hMb : ∀ y ∈ M, y.1 < 18446744073709551616 ∧ y.2 < 18446744073709551616 := by rw [← hM, hv0]; exact set_bd hbd ⟨hxl, hv64⟩
    have ⟨e0, e1, k0, k1⟩ := O8.at_ hi
    clear d0 d1 f0 f1 y0 y1 a7 O7 X7 bc O6 X6 P6 B6
    go_upto_region 16 with (fail)
    have O9 := O8.put (j := i * 2 + 1) (u := .int .u64 ((0 : Nat) : Int)) (by omega) (flatR_set1 M i 0 hMl) (by simp)
    have B := B8.setCell (p := ⟨g2, i * 2 + 1, none⟩) (show w.heap.size ≤ g2 by omega) (.int .u64 ((0 : Nat) : Int))
    obtain ⟨L', hL'⟩ : ∃ L', M.set i ((M.getD i (0, 0)).1, 0) = L' := ⟨_, rfl⟩
    rw [hL'] at O9
    have hno : ¬ OkR L' := not_at (i := i) (by rw [← hL', List.length_set]; exact hMl) (.inr (by rw [← hL', getD_set hMl, hMi]; exact hxno))
    have hbd' : ∀ y ∈ L', y.1 < 18446744073709551616 ∧ y.2 < 18446744073709551616 := by rw [← hL', hMi]; exact set_bd hMb ⟨hxl, by omega⟩
    have e0n : (((0 : Nat) : Int)) = 0 := rfl
    rw [e0n] at O9 B
    generalize W7.setCell ⟨g2, i * 2 + 1, none⟩ (.int .u64 0) = W9 at *
    clear e0 e1 k0 k1 O8 B8
    go_wp2_with fail
    (with_reducible refine (comb_bad (some ⟨g2, 0, none⟩) n c2 L' _ ((O9.resL hbd')) (by omega) (hT.below B h5) (h5.le B.size) hno).mono ?_)
    rintro e w1 ⟨rfl, bz⟩
    replace O9 := O9.keep bz
    replace B := B.trans (bz.mono B.size)
    clear bz
    have hal := (Below.refl w1.heap.size w1).alloc (Nat.le_refl _) (.cells #[.bool false, .slice none 0 0] 28)
    have Sz := Slot2.new w1 (.bool false) (.slice none 0 0) 28
    replace O9 := O9.keep hal
    replace B := B.trans (hal.mono B.size)
    clear hal
    have iz := isInt_zero' (w1.alloc (.cells #[.bool false, .slice none 0 0] 28))
    go_upto_region 17 with (fail)
    generalize (w1.alloc (.cells #[.bool false, .slice none 0 0] 28)) = W2 at *
    have ⟨Szc0, Szc1, _⟩ := Sz
    go_wp2_with fail
    (with_reducible refine (rsign_z false none 0 0 _ 0 iz rfl).mono ?_)
    rintro e w3 ⟨rfl, bs⟩
    clear Szc0 Szc1
    replace O9 := O9.keep bs
    replace Sz := Sz.after bs
    replace iz := iz.below bs
    replace B := B.trans (bs.mono B.size)
    clear bs
    have ⟨Szc0, Szc1, _⟩ := Sz
    go_wp2_with fail
    (with_reducible refine (cons_f (some ⟨g2, 0, none⟩) n c2 L' false none 0 0 _ (O9.resL hbd') iz (by omega) (hT.below B h5) (h5.le B.size) hno).mono ?_)
    rintro e w4 ⟨rfl, bt⟩
    clear Szc0 Szc1
    replace O9 := O9.keep bt
    replace Sz := Sz.after bt
    replace iz := iz.below bt
    replace B := B.trans (bt.mono B.size)
    clear bt
    go_wp2_with fail
    (with_reducible refine (rof_any 1 _ (by decide) (by decide)).mono ?_)
    rintro e w5 ⟨go, Ao, no, co, rfl, io, bo⟩
    replace O9 := O9.keep bo
    replace Sz := Sz.after bo
    replace iz := iz.below bo
    replace B := B.trans (bo.mono B.size)
    clear bo
    go_wp2_with fail
    (with_reducible refine (cons_f (some ⟨g2, 0, none⟩) n c2 L' go Ao no co _ (O9.resL hbd') io (by omega) (hT.below B h5) (h5.le B.size) hno).mono ?_)
    rintro e w6 ⟨rfl, bu⟩
    replace O9 := O9.keep bu
    replace Sz := Sz.after bu
    replace iz := iz.below bu
    replace io := io.below bu
    replace B := B.trans (bu.mono B.size)
    clear bu
    go_wp2_with fail
    go_ret
    exact ⟨rfl, B⟩
  · have hwa : IntKind.u64.wrap ((P0 : Int) + p) = ((P0 + p : Nat) : Int) := by rw [IntKind.wrap_u64]; omega
    go_upto_region 13 with (fail)
    have HS : Hid (∀ V, Below w6.heap.size w6 V → V.cell? ⟨g2, i * 2, none⟩ = some (.int .u64 (P0 : Int)) ∧ V.cell? ⟨w.heap.size, 0, none⟩ = some (.int .u8 (p : Int))) := fun V hV => ⟨by rw [← hP0]; exact ((O6.keep hV).at_ hi).1, (X6.after hV).1⟩
    have Ds0 : Below w6.heap.size w6 w6.drew := (Below.refl _ _).drew
    refine wp_region_seq (.pre [(0, true), (1, true), (2, true), (3, true), (4, true), (5, true), (6, true), (7, true), (8, true), (9, true), (10, true), (11, true), (12, true), (13, false)] .done) (fun W => W.cell? ⟨g2, i * 2, none⟩ = some (.int .u64 (P0 : Int)) ∧ W.cell? ⟨w.heap.size, 0, none⟩ = some (.int .u8 (p : Int))) (by kernel_rfl) (by kernel_rfl) ?_ (by kernel_rfl) (HS.out _ Ds0) ?_
    · refine chk_pre _ _ _ (by as_aux_lemma => kernel_rfl) ?_
      exact (by as_aux_lemma => kernel_rfl)
    refine seq_take _ ?_ rfl (Or.inl ⟨by rfl, ?_⟩) ?_
    rotate_left
    · (intro w hSw; (try dsimp only at hSw); go_simp; (try with_reducible rfl))
    try simp only [Act.put, List.setIfInBounds_toArray, List.set_cons_zero, List.set_cons_succ]
    refine seq_take _ ?_ rfl (Or.inl ⟨by rfl, ?_⟩) ?_
    rotate_left
    · (intro w hSw; (try dsimp only at hSw); go_simp; (try with_reducible rfl))
    try simp only [Act.put, List.setIfInBounds_toArray, List.set_cons_zero, List.set_cons_succ]
    refine seq_take _ ?_ rfl (Or.inl ⟨by rfl, ?_⟩) ?_
    rotate_left
    · (intro w hSw; (try dsimp only at hSw); go_simp; (try with_reducible rfl))
    try simp only [Act.put, List.setIfInBounds_toArray, List.set_cons_zero, List.set_cons_succ]
    refine seq_take _ ?_ rfl (Or.inl ⟨by rfl, ?_⟩) ?_
    rotate_left
    · (intro w hSw; (try dsimp only at hSw); go_simp; (try with_reducible rfl))
    try simp only [Act.put, List.setIfInBounds_toArray, List.set_cons_zero, List.set_cons_succ]
    refine seq_take _ ?_ rfl (Or.inl ⟨by rfl, ?_⟩) ?_
    rotate_left
    · (intro w hSw; (try dsimp only at hSw); go_simp; (try with_reducible rfl))
    try simp only [Act.put, List.setIfInBounds_toArray, List.set_cons_zero, List.set_cons_succ]
    refine seq_take _ ?_ rfl (Or.inl ⟨by rfl, ?_⟩) ?_
    rotate_left
    · (intro w hSw; (try dsimp only at hSw); go_simp; (try with_reducible rfl))
    try simp only [Act.put, List.setIfInBounds_toArray, List.set_cons_zero, List.set_cons_succ]
    refine seq_take _ ?_ rfl (Or.inl ⟨by rfl, ?_⟩) ?_
    rotate_left
    · (intro w hSw; (try dsimp only at hSw); go_simp; (try with_reducible rfl))
    try simp only [Act.put, List.setIfInBounds_toArray, List.set_cons_zero, List.set_cons_succ]
    refine seq_take _ ?_ rfl (Or.inl ⟨by rfl, ?_⟩) ?_
    rotate_left
    · (intro w hSw; (try dsimp only at hSw); go_simp; (try with_reducible rfl))
    try simp only [Act.put, List.setIfInBounds_toArray, List.set_cons_zero, List.set_cons_succ]
    refine seq_take _ ?_ rfl (Or.inl ⟨by rfl, ?_⟩) ?_
    rotate_left
    · (intro w hSw; (try dsimp only at hSw); go_simp; (try with_reducible rfl))
    try simp only [Act.put, List.setIfInBounds_toArray, List.set_cons_zero, List.set_cons_succ]
    refine seq_take _ ?_ rfl (Or.inl ⟨by rfl, ?_⟩) ?_
    rotate_left
    · (intro w hSw; (try dsimp only at hSw); go_simp; (try with_reducible rfl))
    try simp only [Act.put, List.setIfInBounds_toArray, List.set_cons_zero, List.set_cons_succ]
    refine seq_take _ ?_ rfl (Or.inl ⟨by rfl, ?_⟩) ?_
    rotate_left
    · (intro w hSw; (try dsimp only at hSw); go_simp; (try with_reducible rfl))
    try simp only [Act.put, List.setIfInBounds_toArray, List.set_cons_zero, List.set_cons_succ]
    refine seq_take _ ?_ rfl (Or.inl ⟨by rfl, ?_⟩) ?_
    rotate_left
    · (intro w hSw; (try dsimp only at hSw); go_simp; (try with_reducible rfl))
    try simp only [Act.put, List.setIfInBounds_toArray, List.set_cons_zero, List.set_cons_succ]
    refine seq_take _ ?_ rfl (Or.inl ⟨by rfl, ?_⟩) ?_
    rotate_left
    · (intro w hSw; (try dsimp only at hSw); go_simp; (try with_reducible rfl))
    try simp only [Act.put, List.setIfInBounds_toArray, List.set_cons_zero, List.set_cons_succ]
    refine seq_one _ rfl fun K hK => ?_
    have ⟨d0, d1, f0, f1⟩ := (O6.keep Ds0).at_ hi
    go_simp
    refine hK.out _ _ (⟨by show (World.setCell _ _ _).cell? _ = _; rw [World.cell?_setCell_other _ _ _ _ (by simp)]; exact (HS.out _ (Below.refl _ _)).1, by show (World.setCell _ _ _).cell? _ = _; rw [World.cell?_setCell_other _ _ _ _ (by simp)]; exact (HS.out _ (Below.refl _ _)).2⟩) (fun hHeld => ?_)
    clear hK K hHeld
    try simp only [Act.put, List.setIfInBounds_toArray, List.set_cons_zero, List.set_cons_succ]
    refine NoPanic.normal ?_
    have O7 := O6.put (j := i * 2 + 1) (u := .int .u64 ((P0 + p : Nat) : Int)) (by omega) (flatR_set1 L i (P0 + p) hil) (by simp)
    have B7 := B6.setCell (p := ⟨g2, i * 2 + 1, none⟩) (show w.heap.size ≤ g2 by omega) (.int .u64 ((P0 + p : Nat) : Int))
    rw [show ((P0 + p : Nat) : Int) = (P0 : Int) + (p : Int) by simp] at O7 B7
    obtain ⟨L', hL'⟩ : ∃ L', L.set i ((L.getD i (0, 0)).1, P0 + p) = L' := ⟨_, rfl⟩
    rw [hL'] at O7
    have hno : ¬ OkR L' := not_at (i := i) (by rw [← hL', List.length_set]; exact hil) (.inl (by rw [← hL', getD_set hil, hP0]; show P0 ≤ P0 + p; omega))
    have hbd' : ∀ y ∈ L', y.1 < 18446744073709551616 ∧ y.2 < 18446744073709551616 := by rw [← hL']; exact set_bd hbd ⟨by rw [hP0]; show P0 < _; omega, by show P0 + p < _; omega⟩
    have O9 : OwnR (w6.setCell ⟨g2, i * 2 + 1, none⟩ (.int .u64 ((P0 : Int) + (p : Int)))).drew W5.heap.size (.slice (some ⟨g2, 0, none⟩) n c2) n L' := O7
    have B := B7.drew
    go_upto_region 16 with (fail)
    generalize (w6.setCell ⟨g2, i * 2 + 1, none⟩ (.int .u64 ((P0 : Int) + (p : Int)))).drew = W9 at *
    clear O7 B7 O6 B6 X6 P6 x0 x1 Ds0 HS
    go_wp2_with fail
    (with_reducible refine (comb_bad (some ⟨g2, 0, none⟩) n c2 L' _ ((O9.resL hbd')) (by omega) (hT.below B h5) (h5.le B.size) hno).mono ?_)
    rintro e w1 ⟨rfl, bz⟩
    replace O9 := O9.keep bz
    replace B := B.trans (bz.mono B.size)
    clear bz
    have hal := (Below.refl w1.heap.size w1).alloc (Nat.le_refl _) (.cells #[.bool false, .slice none 0 0] 28)
    have Sz := Slot2.new w1 (.bool false) (.slice none 0 0) 28
    replace O9 := O9.keep hal
    replace B := B.trans (hal.mono B.size)
    clear hal
    have iz := isInt_zero' (w1.alloc (.cells #[.bool false, .slice none 0 0] 28))
    go_upto_region 17 with (fail)
    generalize (w1.alloc (.cells #[.bool false, .slice none 0 0] 28)) = W2 at *
    have ⟨Szc0, Szc1, _⟩ := Sz
    go_wp2_with fail
    (with_reducible refine (rsign_z false none 0 0 _ 0 iz rfl).mono ?_)
    rintro e w3 ⟨rfl, bs⟩
    clear Szc0 Szc1
    replace O9 := O9.keep bs
    replace Sz := Sz.after bs
    replace iz := iz.below bs
    replace B := B.trans (bs.mono B.size)
    clear bs
    have ⟨Szc0, Szc1, _⟩ := Sz
    go_wp2_with fail
    (with_reducible refine (cons_f (some ⟨g2, 0, none⟩) n c2 L' false none 0 0 _ (O9.resL hbd') iz (by omega) (hT.below B h5) (h5.le B.size) hno).mono ?_)
    rintro e w4 ⟨rfl, bt⟩
    clear Szc0 Szc1
    replace O9 := O9.keep bt
    replace Sz := Sz.after bt
    replace iz := iz.below bt
    replace B := B.trans (bt.mono B.size)
    clear bt
    go_wp2_with fail
    (with_reducible refine (rof_any 1 _ (by decide) (by decide)).mono ?_)
    rintro e w5 ⟨go, Ao, no, co, rfl, io, bo⟩
    replace O9 := O9.keep bo
    replace Sz := Sz.after bo
    replace iz := iz.below bo
    replace B := B.trans (bo.mono B.size)
    clear bo
    go_wp2_with fail
    (with_reducible refine (cons_f (some ⟨g2, 0, none⟩) n c2 L' go Ao no co _ (O9.resL hbd') io (by omega) (hT.below B h5) (h5.le B.size) hno).mono ?_)
    rintro e w6 ⟨rfl, bu⟩
    replace O9 := O9.keep bu
    replace Sz := Sz.after bu
    replace iz := iz.below bu
    replace io := io.below bu
    replace B := B.trans (bu.mono B.size)
    clear bu
    go_wp2_with fail
    go_ret
    exact ⟨rfl, B⟩
  · obtain ⟨Pk, hPk⟩ : ∃ x, (L.getD k (0, 0)).1 = x := ⟨_, rfl⟩
    have hPkl := hpr.lt _ (getD_mem hkl)
    rw [hPk] at hPkl
    have ⟨d0, d1, f0, f1⟩ := P6.at_ hk
    rw [hPk] at d0
    have e1 : (.int .u64 ((0 : Nat) : Int) : Value) = .int .u64 0 := rfl
    have R1 := OwnR.one w6 w6.heap.size Pk 0 (Nat.le_refl _)
    rw [e1] at R1
    go_upto_region 16 with (at_builtin; refine wpList_append_r _ rfl (.tmp 87) (.tmp 94) rfl W5.heap.size g2 n c2 L rfl (O6.keep ((Below.refl _ _).alloc (Nat.le_refl _) _)) w6.heap.size w6.heap.size 1 1 [(Pk, 0)] rfl R1 (by omega) (by simp; omega) ?_; intro g3 c3 w7 O7 hg7)
    have a7 := (Below.refl w6.heap.size w6).alloc (Nat.le_refl _) (.cells #[.int .u64 (Pk : Int), .int .u64 0] 41)
    have B := (B6.trans (a7.mono B6.size)).grown hg7 (by simp; omega) (fun j hj => by cases hj; omega)
    have hno : ¬ OkR (L ++ [(Pk, 0)]) := by rw [← hPk]; exact not_dup hkl
    have hbd' : ∀ y ∈ L ++ [(Pk, 0)], y.1 < 18446744073709551616 ∧ y.2 < 18446744073709551616 := mem_snoc hbd ⟨by show Pk < _; omega, by show 0 < _; omega⟩
    clear a7 R1 d0 d1 f0 f1 O6 B6 X6 P6 x0 x1
    go_wp2_with fail
    (with_reducible refine (comb_bad (some ⟨g3, 0, none⟩) (n + 1) c3 (L ++ [(Pk, 0)]) _ ((O7.resL hbd')) (by omega) (hT.below B h5) (h5.le B.size) hno).mono ?_)
    rintro e w1 ⟨rfl, bz⟩
    replace O7 := O7.keep bz
    replace B := B.trans (bz.mono B.size)
    clear bz
    have hal := (Below.refl w1.heap.size w1).alloc (Nat.le_refl _) (.cells #[.bool false, .slice none 0 0] 28)
    have Sz := Slot2.new w1 (.bool false) (.slice none 0 0) 28
    replace O7 := O7.keep hal
    replace B := B.trans (hal.mono B.size)
    clear hal
    have iz := isInt_zero' (w1.alloc (.cells #[.bool false, .slice none 0 0] 28))
    go_upto_region 17 with (fail)
    generalize (w1.alloc (.cells #[.bool false, .slice none 0 0] 28)) = W2 at *
    have ⟨Szc0, Szc1, _⟩ := Sz
    go_wp2_with fail
    (with_reducible refine (rsign_z false none 0 0 _ 0 iz rfl).mono ?_)
    rintro e w3 ⟨rfl, bs⟩
    clear Szc0 Szc1
    replace O7 := O7.keep bs
    replace Sz := Sz.after bs
    replace iz := iz.below bs
    replace B := B.trans (bs.mono B.size)
    clear bs
    have ⟨Szc0, Szc1, _⟩ := Sz
    go_wp2_with fail
    (with_reducible refine (cons_f (some ⟨g3, 0, none⟩) (n + 1) c3 (L ++ [(Pk, 0)]) false none 0 0 _ (O7.resL hbd') iz (by omega) (hT.below B h5) (h5.le B.size) hno).mono ?_)
    rintro e w4 ⟨rfl, bt⟩
    clear Szc0 Szc1
    replace O7 := O7.keep bt
    replace Sz := Sz.after bt
    replace iz := iz.below bt
    replace B := B.trans (bt.mono B.size)
    clear bt
    go_wp2_with fail
    (with_reducible refine (rof_any 1 _ (by decide) (by decide)).mono ?_)
    rintro e w5 ⟨go, Ao, no, co, rfl, io, bo⟩
    replace O7 := O7.keep bo
    replace Sz := Sz.after bo
    replace iz := iz.below bo
    replace B := B.trans (bo.mono B.size)
    clear bo
    go_wp2_with fail
    (with_reducible refine (cons_f (some ⟨g3, 0, none⟩) (n + 1) c3 (L ++ [(Pk, 0)]) go Ao no co _ (O7.resL hbd') io (by omega) (hT.below B h5) (h5.le B.size) hno).mono ?_)
    rintro e w6 ⟨rfl, bu⟩
    replace O7 := O7.keep bu
    replace Sz := Sz.after bu
    replace iz := iz.below bu
    replace io := io.below bu
    replace B := B.trans (bu.mono B.size)
    clear bu
    go_wp2_with fail
    go_ret
    exact ⟨rfl, B⟩
  · have hPP : P0 * P0 < 2147483648 * 2147483648 := by
      rcases Nat.eq_zero_or_pos P0 with h | h
      · rw [h]; decide
      · exact Nat.mul_lt_mul_of_lt_of_le hPl (by omega) (by omega)
    have hwa : IntKind.u64.wrap ((P0 : Int) * (P0 : Int)) = ((P0 * P0 : Nat) : Int) := u64_mul (by omega)
    have hgg : g ≠ g2 := by omega
    go_upto_region 8 with (fail)
    have HS : Hid (∀ V, Below w6.heap.size w6 V → V.cell? ⟨g, i * 2, none⟩ = some (.int .u64 (P0 : Int))) := fun V hV => by rw [← hP0]; exact ((P6.keep hV).at_ hi).1
    have Ds0 : Below w6.heap.size w6 w6.drew := (Below.refl _ _).drew
    refine wp_region_seq (.pre [(0, true), (1, true), (2, true), (3, true), (4, true), (5, true), (6, true), (7, true), (8, true), (9, true), (10, true), (11, true), (12, true), (13, true), (14, true), (15, false)] .done) (fun W => W.cell? ⟨g, i * 2, none⟩ = some (.int .u64 (P0 : Int))) (by kernel_rfl) (by kernel_rfl) ?_ (by kernel_rfl) (HS.out _ Ds0) ?_
    · refine chk_pre _ _ _ (by as_aux_lemma => kernel_rfl) ?_
      exact (by as_aux_lemma => kernel_rfl)
    refine seq_take _ ?_ rfl (Or.inl ⟨by rfl, ?_⟩) ?_
    rotate_left
    · (intro w hSw; (try dsimp only at hSw); go_simp; (try with_reducible rfl))
    try simp only [Act.put, List.setIfInBounds_toArray, List.set_cons_zero, List.set_cons_succ]
    refine seq_take _ ?_ rfl (Or.inl ⟨by rfl, ?_⟩) ?_
    rotate_left
    · (intro w hSw; (try dsimp only at hSw); go_simp; (try with_reducible rfl))
    try simp only [Act.put, List.setIfInBounds_toArray, List.set_cons_zero, List.set_cons_succ]
    refine seq_take _ ?_ rfl (Or.inl ⟨by rfl, ?_⟩) ?_
    rotate_left
    · (intro w hSw; (try dsimp only at hSw); go_simp; (try with_reducible rfl))
    try simp only [Act.put, List.setIfInBounds_toArray, List.set_cons_zero, List.set_cons_succ]
    refine seq_take _ ?_ rfl (Or.inl ⟨by rfl, ?_⟩) ?_
    rotate_left
    · (intro w hSw; (try dsimp only at hSw); go_simp; (try with_reducible rfl))
    try simp only [Act.put, List.setIfInBounds_toArray, List.set_cons_zero, List.set_cons_succ]
    refine seq_take _ ?_ rfl (Or.inl ⟨by rfl, ?_⟩) ?_
    rotate_left
    · (intro w hSw; (try dsimp only at hSw); go_simp; (try with_reducible rfl))
    try simp only [Act.put, List.setIfInBounds_toArray, List.set_cons_zero, List.set_cons_succ]
    refine seq_take _ ?_ rfl (Or.inl ⟨by rfl, ?_⟩) ?_
    rotate_left
    · (intro w hSw; (try dsimp only at hSw); go_simp; (try with_reducible rfl))
    try simp only [Act.put, List.setIfInBounds_toArray, List.set_cons_zero, List.set_cons_succ]
    refine seq_take _ ?_ rfl (Or.inl ⟨by rfl, ?_⟩) ?_
    rotate_left
    · (intro w hSw; (try dsimp only at hSw); go_simp; (try with_reducible rfl))
    try simp only [Act.put, List.setIfInBounds_toArray, List.set_cons_zero, List.set_cons_succ]
    refine seq_take _ ?_ rfl (Or.inl ⟨by rfl, ?_⟩) ?_
    rotate_left
    · (intro w hSw; (try dsimp only at hSw); go_simp; (try with_reducible rfl))
    try simp only [Act.put, List.setIfInBounds_toArray, List.set_cons_zero, List.set_cons_succ]
    refine seq_take _ ?_ rfl (Or.inl ⟨by rfl, ?_⟩) ?_
    rotate_left
    · (intro w hSw; (try dsimp only at hSw); go_simp; (try with_reducible rfl))
    try simp only [Act.put, List.setIfInBounds_toArray, List.set_cons_zero, List.set_cons_succ]
    refine seq_take _ ?_ rfl (Or.inl ⟨by rfl, ?_⟩) ?_
    rotate_left
    · (intro w hSw; (try dsimp only at hSw); go_simp; (try with_reducible rfl))
    try simp only [Act.put, List.setIfInBounds_toArray, List.set_cons_zero, List.set_cons_succ]
    refine seq_take _ ?_ rfl (Or.inl ⟨by rfl, ?_⟩) ?_
    rotate_left
    · (intro w hSw; (try dsimp only at hSw); go_simp; (try with_reducible rfl))
    try simp only [Act.put, List.setIfInBounds_toArray, List.set_cons_zero, List.set_cons_succ]
    refine seq_take _ ?_ rfl (Or.inl ⟨by rfl, ?_⟩) ?_
    rotate_left
    · (intro w hSw; (try dsimp only at hSw); go_simp; (try with_reducible rfl))
    try simp only [Act.put, List.setIfInBounds_toArray, List.set_cons_zero, List.set_cons_succ]
    refine seq_take _ ?_ rfl (Or.inl ⟨by rfl, ?_⟩) ?_
    rotate_left
    · (intro w hSw; (try dsimp only at hSw); go_simp; (try with_reducible rfl))
    try simp only [Act.put, List.setIfInBounds_toArray, List.set_cons_zero, List.set_cons_succ]
    refine seq_take _ ?_ rfl (Or.inl ⟨by rfl, ?_⟩) ?_
    rotate_left
    · (intro w hSw; (try dsimp only at hSw); go_simp; (try with_reducible rfl))
    try simp only [Act.put, List.setIfInBounds_toArray, List.set_cons_zero, List.set_cons_succ]
    refine seq_take _ ?_ rfl (Or.inl ⟨by rfl, ?_⟩) ?_
    rotate_left
    · (intro w hSw; (try dsimp only at hSw); go_simp; (try with_reducible rfl))
    try simp only [Act.put, List.setIfInBounds_toArray, List.set_cons_zero, List.set_cons_succ]
    refine seq_one _ rfl fun K hK => ?_
    have ⟨d0, d1, f0, f1⟩ := (O6.keep Ds0).at_ hi
    go_simp
    refine hK.out _ _ (by show (World.setCell _ _ _).cell? _ = _; rw [World.cell?_setCell_other _ _ _ _ (by simp)]; exact HS.out _ (Below.refl _ _)) (fun hHeld => ?_)
    clear hK K hHeld
    try simp only [Act.put, List.setIfInBounds_toArray, List.set_cons_zero, List.set_cons_succ]
    refine NoPanic.normal ?_
    have O7 := O6.put (j := i * 2) (u := .int .u64 ((P0 * P0 : Nat) : Int)) (by omega) (flatR_set0 L i (P0 * P0) hil) (by simp)
    have B7 := B6.setCell (p := ⟨g2, i * 2, none⟩) (show w.heap.size ≤ g2 by omega) (.int .u64 ((P0 * P0 : Nat) : Int))
    rw [show ((P0 * P0 : Nat) : Int) = (P0 : Int) * (P0 : Int) by simp] at O7 B7
    obtain ⟨L', hL'⟩ : ∃ L', L.set i (P0 * P0, (L.getD i (0, 0)).2) = L' := ⟨_, rfl⟩
    rw [hL'] at O7
    have hno : ¬ OkR L' := not_at (i := i) (by rw [← hL', List.length_set]; exact hil) (.inr (by rw [← hL', getD_set hil]; exact hPs))
    have hbd' : ∀ y ∈ L', y.1 < 18446744073709551616 ∧ y.2 < 18446744073709551616 := by rw [← hL']; exact set_bd hbd ⟨by show P0 * P0 < _; omega, by rw [hv0]; exact hv64⟩
    have O9 : OwnR (w6.setCell ⟨g2, i * 2, none⟩ (.int .u64 ((P0 : Int) * (P0 : Int)))).drew W5.heap.size (.slice (some ⟨g2, 0, none⟩) n c2) n L' := O7
    have B := B7.drew
    go_upto_region 16 with (fail)
    generalize (w6.setCell ⟨g2, i * 2, none⟩ (.int .u64 ((P0 : Int) * (P0 : Int)))).drew = W9 at *
    clear O7 B7 O6 B6 X6 P6 x0 x1 Ds0 HS
    go_wp2_with fail
    (with_reducible refine (comb_bad (some ⟨g2, 0, none⟩) n c2 L' _ ((O9.resL hbd')) (by omega) (hT.below B h5) (h5.le B.size) hno).mono ?_)
    rintro e w1 ⟨rfl, bz⟩
    replace O9 := O9.keep bz
    replace B := B.trans (bz.mono B.size)
    clear bz
    have hal := (Below.refl w1.heap.size w1).alloc (Nat.le_refl _) (.cells #[.bool false, .slice none 0 0] 28)
    have Sz := Slot2.new w1 (.bool false) (.slice none 0 0) 28
    replace O9 := O9.keep hal
    replace B := B.trans (hal.mono B.size)
    clear hal
    have iz := isInt_zero' (w1.alloc (.cells #[.bool false, .slice none 0 0] 28))
    go_upto_region 17 with (fail)
    generalize (w1.alloc (.cells #[.bool false, .slice none 0 0] 28)) = W2 at *
    have ⟨Szc0, Szc1, _⟩ := Sz
    go_wp2_with fail
    (with_reducible refine (rsign_z false none 0 0 _ 0 iz rfl).mono ?_)
    rintro e w3 ⟨rfl, bs⟩
    clear Szc0 Szc1
    replace O9 := O9.keep bs
    replace Sz := Sz.after bs
    replace iz := iz.below bs
    replace B := B.trans (bs.mono B.size)
    clear bs
    have ⟨Szc0, Szc1, _⟩ := Sz
    go_wp2_with fail
    (with_reducible refine (cons_f (some ⟨g2, 0, none⟩) n c2 L' false none 0 0 _ (O9.resL hbd') iz (by omega) (hT.below B h5) (h5.le B.size) hno).mono ?_)
    rintro e w4 ⟨rfl, bt⟩
    clear Szc0 Szc1
    replace O9 := O9.keep bt
    replace Sz := Sz.after bt
    replace iz := iz.below bt
    replace B := B.trans (bt.mono B.size)
    clear bt
    go_wp2_with fail
    (with_reducible refine (rof_any 1 _ (by decide) (by decide)).mono ?_)
    rintro e w5 ⟨go, Ao, no, co, rfl, io, bo⟩
    replace O9 := O9.keep bo
    replace Sz := Sz.after bo
    replace iz := iz.below bo
    replace B := B.trans (bo.mono B.size)
    clear bo
    go_wp2_with fail
    (with_reducible refine (cons_f (some ⟨g2, 0, none⟩) n c2 L' go Ao no co _ (O9.resL hbd') io (by omega) (hT.below B h5) (h5.le B.size) hno).mono ?_)
    rintro e w6 ⟨rfl, bu⟩
    replace O9 := O9.keep bu
    replace Sz := Sz.after bu
    replace iz := iz.below bu
    replace io := io.below bu
    replace B := B.trans (bu.mono B.size)
    clear bu
    go_wp2_with fail
    go_ret
    exact ⟨rfl, B⟩
end Go.Proofs.YtclmenpclkmfeaaDoor
