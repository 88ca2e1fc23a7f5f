/- Contract of crt.Combine. Words for statements that assign several fractions at once. Contract of torsionref01.Gcd. Contracts of torsionref02: Of, of, Whole, Number, Made, Same. -/
import Derived.Test.YtclmenpclkmfeaaDoorVG15DivModW
import Derived.Test.YtclmenpclkmfeaaDoorVG26RDM
import Derived.Test.YtclmenpclkmfeaaDoorVG1CrtMap
import Derived.Deep.LoopGhost
import Derived.Test.YtclmenpclkmfeaaDoorVG5MadeL
namespace Go.Proofs.YtclmenpclkmfeaaDoor
open Go.RowKit Go.Maps
/-- The integer z is the one that Combine is to return. -/
structure Cmb (L : List (Nat × Nat)) (z : Int) : Prop where
  rg : -((prodP L : Nat) : Int) < 2 * z ∧ 2 * z ≤ (prodP L : Nat)
  res : ∀ x ∈ L, ((x.1 : Nat) : Int) ∣ z - x.2
theorem CInv.cmb {L : List (Nat × Nat)} {a m : Nat} (h : CInv L a m) : Cmb L (centre a m) := by
  have h1 := h.prod
  subst h1
  refine ⟨centre_range h.lt, fun x hx => ?_⟩
  have e1 : ((x.1 : Nat) : Int) ∣ centre a (prodP L) - a := Int.dvd_trans (Int.natCast_dvd_natCast.2 (prodP_dvd hx)) (centre_dvd a (prodP L))
  have e2 : ((x.1 : Nat) : Int) ∣ (a : Int) - x.2 := by
    rw [← h.res x hx, Int.natCast_emod]
    exact Int.dvd_self_sub_emod
  have := Int.dvd_add e1 e2
  rwa [show centre a (prodP L) - a + ((a : Int) - x.2) = centre a (prodP L) - x.2 by omega] at this
/-- What Combine returns. -/
def RetCo (w : World) (L : List (Nat × Nat)) (e : Ending) (w' : World) : Prop := Below w.heap.size w w' ∧
  ((Hid (OkR L) ∧ ∃ g A n c z, e = .returned (.tuple #[.agg #[.bool g, .slice A n c], .int .i64 0]) ∧ IsInt w' g A n c z ∧ Hid (Cmb L z)) ∨
   (Hid (¬ OkR L) ∧ e = .returned (.tuple #[.agg #[.bool false, .slice none 0 0], .int .i64 40])))
theorem cmpN_gt0 {a b t : Int} (ht : cmpN a b = t) (h : b < a) : decide (0 < t) = true := by
  rw [← ht, cmpN_gt h]; decide
theorem cmpN_le0 {a b t : Int} (ht : cmpN a b = t) (h : a ≤ b) : decide (0 < t) = false := by
  rw [← ht]
  rcases Int.lt_or_eq_of_le h with h | h
  · rw [cmpN_lt h]; decide
  · rw [h, cmpN_eq]; decide
set_option maxRecDepth 1000000 in
set_option maxHeartbeats 8000000 in
theorem comb_z (A : Option Addr) (n c : Nat) (L : List (Nat × Nat)) (w : World) (h : ResL w A n L) (hn : n ≤ 1000) (hT : TabW w) (h5 : TabN w.heap.size) (hpr : OkR L → ∀ x ∈ L, IsPrime x.1) :
    Calls Tryd.prog 12 #[.slice A n c] w (RetCo w L) := by
  have B0 := (Below.refl w.heap.size w).alloc (Nat.le_refl _) (.cells #[.bool false, .slice none 0 0] 28)
  have R0 := Slot2.new w (.bool false) (.slice none 0 0) 28
  have hlen := h.len
  have HPR := Lib.hid hpr
  have HTab := Lib.hid (tab_z A n c L _ (h.below B0) hn (hT.below B0 h5) (h5.le B0.size))
  have hmf := mf_run
  clear h hT h5 hpr
  go_enter Tryd.func12, Tryd.ntmps12
  generalize hW : w.alloc (.cells #[.bool false, .slice none 0 0] 28) = W0 at *
  go_wp2_with fail
  try rw [hW]
  clear hW
  (with_reducible refine HTab.out.mono ?_)
  clear HTab
  rintro e w1 ⟨hb1, ⟨Ap, cp, rfl, hown, hrow, hok⟩ | ⟨rfl, hno⟩⟩
  case' inr =>
    have b2 := hb1.alloc hb1.size (.cells #[.slice none 0 0, .map none] 75)
    have R := R0.after b2
    have B := B0.trans (b2.mono B0.size)
    clear R0 B0 hb1 b2
    have ⟨r0, r1, r2, r3, _⟩ := R
    go_wp2_with fail
    exact bodyPost_ret (v := .tuple #[.agg #[.bool false, .slice none 0 0], .int .i64 40]) (by simp [results, Tryd.results12, go_sem, r0, r1]) rfl ⟨Below.set2 B (Nat.le_refl _) _ _, .inr ⟨hno, rfl⟩⟩
  have b2 := hb1.alloc hb1.size (.cells #[.slice Ap n cp, .map (some (W0.heap.size + 1))] 75)
  have c2 := (Below.refl w1.heap.size w1).alloc (Nat.le_refl _) (.cells #[.slice Ap n cp, .map (some (W0.heap.size + 1))] 75)
  have T := Slot2.new w1 (.slice Ap n cp) (.map (some (W0.heap.size + 1))) 75
  replace hown := ownsMap_below hown c2
  replace hrow := hrow.keep c2
  have HI := Lib.hid (interp_z Ap n cp (W0.heap.size + 1) (W0.heap.size + 1 + 1 + 1) L _ hrow hown hok.out (HPR.out hok.out) hn)
  replace R0 := R0.after b2
  replace B0 := B0.trans (b2.mono B0.size)
  clear hb1 b2 c2 hown hrow
  have ⟨t0, t1, t2, t3, _⟩ := T
  generalize hW : w1.alloc (.cells #[.slice Ap n cp, .map (some (W0.heap.size + 1))] 75) = W1 at *
  go_wp2_with fail
  try rw [hW]
  clear hW
  (with_reducible refine HI.out.mono ?_)
  clear HI
  rintro e w2 ⟨a, m, hI, ga, Aa, na, ca, gm, Am, nm, cm, rfl, Ia, Im, d1⟩
  clear t0 t1 t2 t3 T
  have hsz : w.heap.size + 1 ≤ w2.heap.size := Nat.lt_of_lt_of_le R0.2.2.2.2 d1.size
  have d3 := (Below.refl w2.heap.size w2).alloc (Nat.le_refl _) (.cells #[.bool ga, .slice Aa na ca] 28)
  have d4 := d3.alloc d3.size (.cells #[.bool gm, .slice Am nm cm] 28)
  have X := (Slot2.new w2 (.bool ga) (.slice Aa na ca) 28).alloc (.cells #[.bool gm, .slice Am nm cm] 28)
  have Y := Slot2.new (w2.alloc (.cells #[.bool ga, .slice Aa na ca] 28)) (.bool gm) (.slice Am nm cm) 28
  simp only [World.size_alloc] at Y
  replace Ia := Ia.below d4
  replace Im := Im.below d4
  replace d1 := d1.trans (d4.mono d1.size)
  replace R0 := R0.after d1
  replace B0 := B0.trans (d1.mono B0.size)
  clear d1 d3 d4
  have hsa := hI.out.sz (fun x hx => by have := (hok.out.bound x hx).2.1; omega) (by omega)
  have Sa := hsa.1
  have Sm := hsa.2
  rw [hlen] at Sa Sm
  have Saa := Sa.add Sa (by omega)
  have HC := Lib.hid hI.out.cmb
  have HI := Lib.hid hI.out.lt
  clear hI hsa
  obtain ⟨gx, hgx⟩ : ∃ gx, gx = w2.heap.size := ⟨_, rfl⟩
  rw [← hgx] at hsz X Y
  go_upto_region 5 with (fail)
  generalize (w2.alloc (.cells #[.bool ga, .slice Aa na ca] 28)).alloc (.cells #[.bool gm, .slice Am nm cm] 28) = W3 at *
  rw [← hgx]
  clear hgx
  have HS : Hid (∀ V, Below W3.heap.size W3 V → (V.cell? ⟨gx, 0, none⟩ = some (.bool ga) ∧ V.cell? ⟨gx, 1, none⟩ = some (.slice Aa na ca)) ∧ (V.cell? ⟨(gx + 1), 0, none⟩ = some (.bool gm) ∧ V.cell? ⟨(gx + 1), 1, none⟩ = some (.slice Am nm cm))) := fun V hV => ⟨⟨(X.after hV).1, (X.after hV).2.1⟩, (Y.after hV).1, (Y.after hV).2.1⟩
  obtain ⟨t, ht⟩ : ∃ t, cmpN ((a : Int) + a) m = t := ⟨_, rfl⟩
  have HT := Lib.hid ht
  rcases Int.lt_or_le (m : Int) ((a : Int) + a) with hlt | hle
  · have ht0 := cmpN_gt0 ht hlt
    have HZ : Hid (Cmb L ((a : Int) - m)) := by
      have := HC.out
      unfold centre at this
      rw [if_pos (by omega)] at this; exact this
    clear ht hlt
    have Dr0 : Below W3.heap.size W3 W3.drew := (Below.refl _ _).drew
    refine wp_region_seq (.pre [(0, true), (1, true), (3, true), (2, false), (4, false), (5, true)] .done) (fun W => (W.cell? ⟨gx, 0, none⟩ = some (.bool ga) ∧ W.cell? ⟨gx, 1, none⟩ = some (.slice Aa na ca)) ∧ (W.cell? ⟨(gx + 1), 0, none⟩ = some (.bool gm) ∧ W.cell? ⟨(gx + 1), 1, none⟩ = some (.slice Am nm cm))) (by kernel_rfl) (by kernel_rfl) ?_ (by kernel_rfl) (HS.out _ Dr0) ?_
    · refine chk_pre _ _ _ (by as_aux_lemma => kernel_rfl) ?_
      exact (by as_aux_lemma => kernel_rfl)
    refine seq_take _ ?_ rfl (Or.inl ⟨by rfl, ?_⟩) ?_
    rotate_left
    · (intro w hSw; (try dsimp only at hSw); go_simp; (try with_reducible rfl))
    try simp only [Act.put, List.setIfInBounds_toArray, List.set_cons_zero, List.set_cons_succ]
    refine seq_take _ ?_ rfl (Or.inl ⟨by rfl, ?_⟩) ?_
    rotate_left
    · (intro w hSw; (try dsimp only at hSw); go_simp; (try with_reducible rfl))
    try simp only [Act.put, List.setIfInBounds_toArray, List.set_cons_zero, List.set_cons_succ]
    refine seq_take _ ?_ rfl (Or.inl ⟨by rfl, ?_⟩) ?_
    rotate_left
    · (intro w hSw; (try dsimp only at hSw); go_simp; (try with_reducible rfl))
    try simp only [Act.put, List.setIfInBounds_toArray, List.set_cons_zero, List.set_cons_succ]
    refine seq_one _ rfl fun K hK => ?_
    go_simp
    (with_reducible refine (add_z ga ga Aa Aa na ca na ca _ (Ia.below Dr0) (Ia.below Dr0) Sa Sa).mono ?_)
    rintro e vr1 ⟨gr1, Ar1, nr1, cr1, rfl, ir1, br1⟩
    have Dr1 : Below W3.heap.size W3 vr1 := Below.trans Dr0 (br1.mono (Below.size Dr0))
    go_wp2_with fail
    refine hK.out _ _ (HS.out _ Dr1) (fun hHeld => ?_)
    clear hK K hHeld
    try simp only [Act.put, List.setIfInBounds_toArray, List.set_cons_zero, List.set_cons_succ]
    refine seq_one _ rfl fun K hK => ?_
    go_simp
    (with_reducible refine (cmp_z gr1 gm Ar1 Am nr1 cr1 nm cm _ t ir1 (Im.below Dr1) HT.out).mono ?_)
    rintro e vr2 ⟨rfl, br2⟩
    have Dr2 : Below W3.heap.size W3 vr2 := Below.trans Dr1 (br2.mono (Below.size Dr1))
    go_wp2_with fail
    refine hK.out _ _ (HS.out _ Dr2) (fun hHeld => ?_)
    clear hK K hHeld
    try simp only [Act.put, List.setIfInBounds_toArray, List.set_cons_zero, List.set_cons_succ]
    refine seq_take _ ?_ rfl (Or.inl ⟨by rfl, ?_⟩) ?_
    rotate_left
    · (intro w hSw; (try dsimp only at hSw); go_simp; (try with_reducible rfl))
    try simp only [Act.put, List.setIfInBounds_toArray, List.set_cons_zero, List.set_cons_succ]
    refine NoPanic.normal ?_
    replace X := X.after Dr2
    replace Y := Y.after Dr2
    replace Ia := Ia.below Dr2
    replace Im := Im.below Dr2
    replace R0 := R0.after Dr2
    replace B0 := B0.trans (Dr2.mono B0.size)
    clear Dr0 Dr1 Dr2 br1 br2 ir1 HS HC
    have ⟨x0, x1, x2, x3, _⟩ := X
    have ⟨y0, y1, y2, y3, _⟩ := Y
    have ⟨r0, r1, r2, r3, _⟩ := R0
    go_wp2_with fail
    (with_reducible refine (sub_z ga gm Aa Am na ca nm cm _ Ia Im Sa Sm).mono ?_)
    rintro e w5 ⟨g5, A5, n5, c5, rfl, i5, b5⟩
    replace X := X.after b5
    replace R0 := R0.after b5
    replace B0 := B0.trans (b5.mono B0.size)
    clear x0 x1 x2 x3 y0 y1 y2 y3 r0 r1 r2 r3 b5 Ia Im Y
    have ⟨x0, x1, x2, x3, _⟩ := X
    have B5 := Below.set2 B0 (show w.heap.size ≤ gx by omega) (.bool g5) (.slice A5 n5 c5)
    have I5 := i5.set2 X rfl rfl (.bool g5) (.slice A5 n5 c5)
    have X5 := X.set2 (.bool g5) (.slice A5 n5 c5)
    have R5 := R0.far2 (g' := gx) (by omega) (.bool g5) (.slice A5 n5 c5)
    have ⟨y0, y1, y2, y3, _⟩ := X5
    have ⟨r0, r1, r2, r3, _⟩ := R5
    go_wp2_with fail
    exact bodyPost_ret (v := .tuple #[.agg #[.bool g5, .slice A5 n5 c5], .int .i64 0]) (by simp [results, Tryd.results12, go_sem, r0, r1]) rfl ⟨Below.set2 B5 (Nat.le_refl _) _ _, .inl ⟨hok, _, _, _, _, _, rfl, I5.set2 R5 rfl rfl _ _, HZ⟩⟩
  · have ht0 := cmpN_le0 ht hle
    have HZ : Hid (Cmb L (a : Int)) := by
      have := HC.out
      unfold centre at this
      rw [if_neg (by omega)] at this; exact this
    clear ht hle
    have Dr0 : Below W3.heap.size W3 W3.drew := (Below.refl _ _).drew
    refine wp_region_seq (.pre [(0, true), (1, true), (3, true), (2, false), (4, false), (5, true)] .done) (fun W => (W.cell? ⟨gx, 0, none⟩ = some (.bool ga) ∧ W.cell? ⟨gx, 1, none⟩ = some (.slice Aa na ca)) ∧ (W.cell? ⟨(gx + 1), 0, none⟩ = some (.bool gm) ∧ W.cell? ⟨(gx + 1), 1, none⟩ = some (.slice Am nm cm))) (by kernel_rfl) (by kernel_rfl) ?_ (by kernel_rfl) (HS.out _ Dr0) ?_
    · refine chk_pre _ _ _ (by as_aux_lemma => kernel_rfl) ?_
      exact (by as_aux_lemma => kernel_rfl)
    refine seq_take _ ?_ rfl (Or.inl ⟨by rfl, ?_⟩) ?_
    rotate_left
    · (intro w hSw; (try dsimp only at hSw); go_simp; (try with_reducible rfl))
    try simp only [Act.put, List.setIfInBounds_toArray, List.set_cons_zero, List.set_cons_succ]
    refine seq_take _ ?_ rfl (Or.inl ⟨by rfl, ?_⟩) ?_
    rotate_left
    · (intro w hSw; (try dsimp only at hSw); go_simp; (try with_reducible rfl))
    try simp only [Act.put, List.setIfInBounds_toArray, List.set_cons_zero, List.set_cons_succ]
    refine seq_take _ ?_ rfl (Or.inl ⟨by rfl, ?_⟩) ?_
    rotate_left
    · (intro w hSw; (try dsimp only at hSw); go_simp; (try with_reducible rfl))
    try simp only [Act.put, List.setIfInBounds_toArray, List.set_cons_zero, List.set_cons_succ]
    refine seq_one _ rfl fun K hK => ?_
    go_simp
    (with_reducible refine (add_z ga ga Aa Aa na ca na ca _ (Ia.below Dr0) (Ia.below Dr0) Sa Sa).mono ?_)
    rintro e vr1 ⟨gr1, Ar1, nr1, cr1, rfl, ir1, br1⟩
    have Dr1 : Below W3.heap.size W3 vr1 := Below.trans Dr0 (br1.mono (Below.size Dr0))
    go_wp2_with fail
    refine hK.out _ _ (HS.out _ Dr1) (fun hHeld => ?_)
    clear hK K hHeld
    try simp only [Act.put, List.setIfInBounds_toArray, List.set_cons_zero, List.set_cons_succ]
    refine seq_one _ rfl fun K hK => ?_
    go_simp
    (with_reducible refine (cmp_z gr1 gm Ar1 Am nr1 cr1 nm cm _ t ir1 (Im.below Dr1) HT.out).mono ?_)
    rintro e vr2 ⟨rfl, br2⟩
    have Dr2 : Below W3.heap.size W3 vr2 := Below.trans Dr1 (br2.mono (Below.size Dr1))
    go_wp2_with fail
    refine hK.out _ _ (HS.out _ Dr2) (fun hHeld => ?_)
    clear hK K hHeld
    try simp only [Act.put, List.setIfInBounds_toArray, List.set_cons_zero, List.set_cons_succ]
    refine seq_take _ ?_ rfl (Or.inl ⟨by rfl, ?_⟩) ?_
    rotate_left
    · (intro w hSw; (try dsimp only at hSw); go_simp; (try with_reducible rfl))
    try simp only [Act.put, List.setIfInBounds_toArray, List.set_cons_zero, List.set_cons_succ]
    refine NoPanic.normal ?_
    replace X := X.after Dr2
    replace Y := Y.after Dr2
    replace Ia := Ia.below Dr2
    replace Im := Im.below Dr2
    replace R0 := R0.after Dr2
    replace B0 := B0.trans (Dr2.mono B0.size)
    clear Dr0 Dr1 Dr2 br1 br2 ir1 HS HC
    have ⟨x0, x1, x2, x3, _⟩ := X
    have ⟨y0, y1, y2, y3, _⟩ := Y
    have ⟨r0, r1, r2, r3, _⟩ := R0
    go_wp2_with fail
    exact bodyPost_ret (v := .tuple #[.agg #[.bool ga, .slice Aa na ca], .int .i64 0]) (by simp [results, Tryd.results12, go_sem, r0, r1]) rfl ⟨Below.set2 B0 (Nat.le_refl _) _ _, .inl ⟨hok, _, _, _, _, _, rfl, Ia.set2 R0 rfl rfl _ _, HZ⟩⟩
end Go.Proofs.YtclmenpclkmfeaaDoor
namespace Go.Proofs.YtclmenpclkmfeaaDoor
open Go.RowKit
/-- The struct at block g holds the fraction q. -/
def RatAt (w : World) (g : Nat) (q : Rat) : Prop := ∃ gn An nn cn gd Ad nd cd, Slot4 w g (.bool gn) (.slice An nn cn) (.bool gd) (.slice Ad nd cd) ∧ IsRat w gn An nn cn gd Ad nd cd q
theorem RatAt.after {w w' : World} {g : Nat} {q : Rat} (h : RatAt w g q) (hb : Below w.heap.size w w') : RatAt w' g q := by
  obtain ⟨a, b, c, d, a', b', c', d', h1, h2⟩ := h
  exact ⟨a, b, c, d, a', b', c', d', h1.after hb, h2.below hb⟩
theorem RatAt.new {w : World} {gn gd : Bool} {An Ad : Option Addr} {nn cn nd cd : Nat} {q : Rat} (h : IsRat w gn An nn cn gd Ad nd cd q) : RatAt (w.alloc (.cells #[.bool gn, .slice An nn cn, .bool gd, .slice Ad nd cd] 57)) w.heap.size q :=
  ⟨gn, An, nn, cn, gd, Ad, nd, cd, Slot4.new w _ _ _ _ _, h.below ((Below.refl _ _).alloc (Nat.le_refl _) _)⟩
/-- The value v is the fraction q. -/
def RatV (w : World) (v : Value) (q : Rat) : Prop := ∃ gn An nn cn gd Ad nd cd, v = .agg #[.bool gn, .slice An nn cn, .bool gd, .slice Ad nd cd] ∧ IsRat w gn An nn cn gd Ad nd cd q
theorem RatV.below {w w' : World} {v : Value} {q : Rat} (h : RatV w v q) (hb : Below w.heap.size w w') : RatV w' v q := by
  obtain ⟨a, b, c, d, a', b', c', d', e, hi⟩ := h
  exact ⟨a, b, c, d, a', b', c', d', e, hi.below hb⟩
/-- A tuple of a fraction and a code. -/
def TupQ (w : World) (v : Value) (q : Rat) (e : Int) : Prop := ∃ v1, v = .tuple #[v1, .int .i64 e] ∧ RatV w v1 q
theorem TupQ.below {w w' : World} {v : Value} {q : Rat} {e : Int} (h : TupQ w v q e) (hb : Below w.heap.size w w') : TupQ w' v q e := by
  obtain ⟨v1, e1, h1⟩ := h
  exact ⟨v1, e1, h1.below hb⟩
section
variable {w : World} {g : Nat} {a0 a1 a2 a3 : Value} (hs : Slot4 w g a0 a1 a2 a3) (n0 : noLimb a0 = true) (n1 : noLimb a1 = true) (n2 : noLimb a2 = true) (n3 : noLimb a3 = true) (u0 u1 u2 u3 : Value)
include hs n0 n1 n2 n3
theorem IntV.set4 {v : Value} {z : Int} (h : IntV w v z) : IntV ((((w.setCell ⟨g, 0, none⟩ u0).setCell ⟨g, 1, none⟩ u1).setCell ⟨g, 2, none⟩ u2).setCell ⟨g, 3, none⟩ u3) v z := by
  obtain ⟨neg, A, n, c, e, hi⟩ := h
  exact ⟨neg, A, n, c, e, hi.stored4 hs n0 n1 n2 n3 _ _ _ _⟩
theorem RatV.set4 {v : Value} {q : Rat} (h : RatV w v q) : RatV ((((w.setCell ⟨g, 0, none⟩ u0).setCell ⟨g, 1, none⟩ u1).setCell ⟨g, 2, none⟩ u2).setCell ⟨g, 3, none⟩ u3) v q := by
  obtain ⟨a, b, c, d, a', b', c', d', e, hi⟩ := h
  exact ⟨a, b, c, d, a', b', c', d', e, hi.stored4 hs n0 n1 n2 n3 _ _ _ _⟩
theorem TupQ.set4 {v : Value} {q : Rat} {e : Int} (h : TupQ w v q e) : TupQ ((((w.setCell ⟨g, 0, none⟩ u0).setCell ⟨g, 1, none⟩ u1).setCell ⟨g, 2, none⟩ u2).setCell ⟨g, 3, none⟩ u3) v q e := by
  obtain ⟨v1, e1, h1⟩ := h
  exact ⟨v1, e1, h1.set4 hs n0 n1 n2 n3 _ _ _ _⟩
end
/-- The pointer v points to a struct of four cells of the call's own, made since B: not yet written, or holding the fraction q. -/
def OwnQ (B : Nat) (w : World) (v : Value) (st : Bool) (q : Rat) : Prop := ∃ g, v = .pointer (some ⟨g, 0, none⟩) ∧ B ≤ g ∧ ∃ a0 a1 a2 a3, Slot4 w g a0 a1 a2 a3 ∧ noLimb a0 = true ∧ noLimb a1 = true ∧ noLimb a2 = true ∧ noLimb a3 = true ∧ (st = true → RatV w (.agg #[a0, a1, a2, a3]) q)
theorem OwnQ.below {B : Nat} {w w' : World} {v : Value} {st : Bool} {q : Rat} (h : OwnQ B w v st q) (hb : Below w.heap.size w w') : OwnQ B w' v st q := by
  obtain ⟨g, e, hg, a0, a1, a2, a3, hs, n0, n1, n2, n3, hi⟩ := h
  exact ⟨g, e, hg, a0, a1, a2, a3, hs.after hb, n0, n1, n2, n3, fun h => (hi h).below hb⟩
theorem OwnQ.new {B : Nat} {w : World} (hB : B ≤ w.heap.size) (q : Rat) : OwnQ B (w.alloc (.cells #[.bool false, .slice none 0 0, .bool false, .slice none 0 0] 57)) (.pointer (some ⟨w.heap.size, 0, none⟩)) false q :=
  ⟨_, rfl, hB, _, _, _, _, Slot4.new w _ _ _ _ _, rfl, rfl, rfl, rfl, fun h => by cases h⟩
theorem OwnQ.far {B : Nat} {w : World} {v : Value} {st : Bool} {q : Rat} (h : OwnQ B w v st q) {g : Nat} (hne : v ≠ .pointer (some ⟨g, 0, none⟩)) {a0 a1 a2 a3 : Value} (hs : Slot4 w g a0 a1 a2 a3) (n0 : noLimb a0 = true) (n1 : noLimb a1 = true) (n2 : noLimb a2 = true) (n3 : noLimb a3 = true) (u0 u1 u2 u3 : Value) :
    OwnQ B ((((w.setCell ⟨g, 0, none⟩ u0).setCell ⟨g, 1, none⟩ u1).setCell ⟨g, 2, none⟩ u2).setCell ⟨g, 3, none⟩ u3) v st q := by
  obtain ⟨g', e, hg, b0, b1, b2, b3, hs', m0, m1, m2, m3, hi⟩ := h
  have hgg : g' ≠ g := fun h => hne (by rw [e, h])
  exact ⟨g', e, hg, b0, b1, b2, b3, hs'.far4 hgg _ _ _ _, m0, m1, m2, m3, fun h => (hi h).set4 hs n0 n1 n2 n3 _ _ _ _⟩
theorem OwnQ.near {B : Nat} {w : World} {g : Nat} {q : Rat} {gn gd : Bool} {An Ad : Option Addr} {nn cn nd cd : Nat} (hi : IsRat w gn An nn cn gd Ad nd cd q) (hg : B ≤ g) {a0 a1 a2 a3 : Value} (hs : Slot4 w g a0 a1 a2 a3) (n0 : noLimb a0 = true) (n1 : noLimb a1 = true) (n2 : noLimb a2 = true) (n3 : noLimb a3 = true) :
    OwnQ B ((((w.setCell ⟨g, 0, none⟩ (.bool gn)).setCell ⟨g, 1, none⟩ (.slice An nn cn)).setCell ⟨g, 2, none⟩ (.bool gd)).setCell ⟨g, 3, none⟩ (.slice Ad nd cd)) (.pointer (some ⟨g, 0, none⟩)) true q :=
  ⟨g, rfl, hg, _, _, _, _, hs.near4 _ _ _ _, rfl, rfl, rfl, rfl, fun _ => ⟨gn, An, nn, cn, gd, Ad, nd, cd, rfl, hi.stored4 hs n0 n1 n2 n3 _ _ _ _⟩⟩
theorem OwnQ.ratAtB {B : Nat} {w : World} {v : Value} {q : Rat} (h : OwnQ B w v true q) : ∃ g, v = .pointer (some ⟨g, 0, none⟩) ∧ RatAt w g q ∧ B ≤ g := by
  obtain ⟨g, e, hB, a0, a1, a2, a3, hs, _, _, _, _, hi⟩ := h
  obtain ⟨gn, An, nn, cn, gd, Ad, nd, cd, e2, hz⟩ := hi rfl
  have e3 : a0 = .bool gn ∧ a1 = .slice An nn cn ∧ a2 = .bool gd ∧ a3 = .slice Ad nd cd := by simpa using e2
  rw [e3.1, e3.2.1, e3.2.2.1, e3.2.2.2] at hs
  exact ⟨g, e, ⟨gn, An, nn, cn, gd, Ad, nd, cd, hs, hz⟩, hB⟩
theorem OwnQ.lt {B : Nat} {w : World} {v : Value} {st : Bool} {q : Rat} (h : OwnQ B w v st q) : v ≠ .pointer (some ⟨w.heap.size, 0, none⟩) := by
  obtain ⟨g, e, _, a0, a1, a2, a3, hs, _⟩ := h
  have := hs.2.2.2.2.2.2.2.2
  rw [e]
  intro h
  have e := congrArg (fun v => match v with | .pointer (some a) => a.block | _ => 0) h
  have e2 : g = w.heap.size := e
  omega
theorem RatAt.far4 {w : World} {g g' : Nat} {q : Rat} (h : RatAt w g q) (hne : g ≠ g') {a0 a1 a2 a3 : Value} (hs : Slot4 w g' a0 a1 a2 a3) (n0 : noLimb a0 = true) (n1 : noLimb a1 = true) (n2 : noLimb a2 = true) (n3 : noLimb a3 = true) (u0 u1 u2 u3 : Value) : RatAt ((((w.setCell ⟨g', 0, none⟩ u0).setCell ⟨g', 1, none⟩ u1).setCell ⟨g', 2, none⟩ u2).setCell ⟨g', 3, none⟩ u3) g q := by
  obtain ⟨a, b, c, d, a', b', c', d', h1, h2⟩ := h
  exact ⟨a, b, c, d, a', b', c', d', h1.far4 hne _ _ _ _, h2.stored4 hs n0 n1 n2 n3 _ _ _ _⟩
end Go.Proofs.YtclmenpclkmfeaaDoor
namespace Go.Proofs.YtclmenpclkmfeaaDoor
open Go.RowKit
theorem gcd_step (x y : Int) (_hy : y ≠ 0) : Nat.gcd y.natAbs (x % y).natAbs = Nat.gcd x.natAbs y.natAbs := by
  have h1 : Int.gcd y (x % y) = Int.gcd x y := by
    rw [Int.gcd_comm x y]
    conv => rhs; rw [← Int.emod_add_mul_ediv x y]
    rw [Int.gcd_add_mul_left_right]
  exact h1
set_option maxRecDepth 1000000 in
set_option maxHeartbeats 4000000 in
theorem rgcd_z (neg neg' : Bool) (A A' : Option Addr) (n c m d : Nat) {k : Nat} {a b : Int} (w : World) (ha : IsInt w neg A n c a) (hb : IsInt w neg' A' m d b) (sa : Sz k a) (sb : Sz k b) (hk : k + 1 + 1 ≤ 10000) :
    Calls Tryd.prog 34 #[.agg #[.bool neg, .slice A n c], .agg #[.bool neg', .slice A' m d]] w (RetInt w ((Nat.gcd a.natAbs b.natAbs : Nat) : Int)) := by
  obtain ⟨HB, P0, Q0, R0⟩ := frame21 w (.bool neg) (.slice A n c) (.bool neg') (.slice A' m d)
  have IA : IntAt _ w.heap.size a := ⟨neg, A, n, c, P0, ha.below HB⟩
  have IB : IntAt _ (w.heap.size + 1) b := ⟨neg', A', m, d, Q0, hb.below HB⟩
  clear ha hb P0 Q0
  go_enter Tryd.func34, Tryd.ntmps34
  go_wp2_with fail
  go_loopg [7] b.natAbs (fun g _ wr => ∃ x y : Int, IntAt wr w.heap.size x ∧ IntAt wr (w.heap.size + 1) y ∧ Hid (y.natAbs = g) ∧ Hid (Nat.gcd x.natAbs y.natAbs = Nat.gcd a.natAbs b.natAbs) ∧ Sz k x ∧ Sz k y ∧ Slot2 wr (w.heap.size + 1 + 1) (.bool false) (.slice none 0 0) ∧ Below w.heap.size w wr)
  case atStart => exact ⟨a, b, IA, IB, rfl, rfl, sa, sb, R0, HB⟩
  case round =>
    obtain ⟨x, y, ⟨gx, Ax, nx, cx, Sx, Ix⟩, ⟨gy, Ay, ny, cy, Sy, Iy⟩, hg, hgcd, sx, sy, R, B⟩ := hrel
    have ⟨x0, x1, _, _, _⟩ := Sy
    obtain ⟨s, hs⟩ : ∃ s, sgn y = s := ⟨_, rfl⟩
    have HSG := Lib.hid hs
    by_cases hy : y = 0
    · have hs0 : (s != 0) = false := by rw [← hs, hy]; rfl
      have HY := Lib.hid hy
      clear hs hy
      go_wp2_with fail
      (with_reducible refine (rsign_z gy Ay ny cy _ s Iy HSG.out).mono ?_)
      rintro e w1 ⟨rfl, h1⟩
      have Sx1 := Sx.after h1
      have R1 := R.after h1
      have Ix1 := Ix.below h1
      have B1 := B.trans (h1.mono B.size)
      have ⟨y0, y1, _, _, _⟩ := Sx1
      clear x0 x1
      go_wp2_with fail
      (with_reducible refine (rmadeAbs_z gx Ax nx cx _ Ix1 sx).mono ?_)
      rintro e w2 ⟨g2, A2, n2, c2, rfl, i2, h2⟩
      have hfin : ((x.natAbs : Nat) : Int) = ((Nat.gcd a.natAbs b.natAbs : Nat) : Int) := by rw [← hgcd.out, HY.out]; simp
      rw [hfin] at i2
      clear hfin
      obtain ⟨k0, k1, k2, k3, _⟩ := R1.after h2
      go_wp2
      exact bodyPost_ret (v := .agg #[.bool g2, .slice A2 n2 c2]) (by simp [results, Tryd.results34, go_sem, k0, k1]) rfl (RetInt.stored i2 B1 h2 (by omega) k0 k1 rfl rfl)
    · have hs0 : (s != 0) = true := by
        have := sgn_ne' hy
        rw [hs] at this
        simpa using this
      have HY := Lib.hid hy
      have hrm := Int.emod_nonneg x hy
      have hrl := Int.emod_lt x hy
      have hgs := gcd_step x y hy
      have zr : Sz k (x % y) := Sz.mod sy hy
      have HDM := fun W (hW : Below wr.heap.size wr W) => rdm_z gx gy Ax Ay nx cx ny cy W (Ix.below hW) (Iy.below hW) sx sy hy hk
      have HDM' := Lib.hid HDM
      have HGS := Lib.hid hgs
      clear hs hy HDM hgs
      go_wp2_with fail
      (with_reducible refine (rsign_z gy Ay ny cy _ s Iy HSG.out).mono ?_)
      rintro e w1 ⟨rfl, h1⟩
      have Sx1 := Sx.after h1
      have Sy1 := Sy.after h1
      have ⟨y0, y1, _, _, _⟩ := Sx1
      have ⟨y2, y3, _, _, _⟩ := Sy1
      clear x0 x1
      go_wp2_with fail
      (with_reducible refine (HDM'.out _ h1).mono ?_)
      rintro e w2 ⟨g1, A1, n1, c1, g2, A2, n2, c2, rfl, i1, i2, hb2⟩
      obtain ⟨BQ, DQ⟩ := two_new i1 i2
      have D := (h1.trans (hb2.mono h1.size)).trans (DQ.mono (h1.trans (hb2.mono h1.size)).size)
      have Sx4 := Sx.after D
      have Sy4 := Sy.after D
      have Iy4 := Iy.below D
      have R4 := R.after D
      have B4 := B.trans (D.mono B.size)
      have hw2 : w.heap.size + 1 + 1 < w2.heap.size := Nat.lt_of_lt_of_le R.2.2.2.2 (h1.trans (hb2.mono h1.size)).size
      clear y0 y1 y2 y3 Sx1 Sy1 Sx Sy Ix Iy R B h1 hb2 DQ D i1 i2 HDM' HSG
      go_upto_region 3 with (fail)
      generalize (w2.alloc (.cells #[.bool g1, .slice A1 n1 c1] 28)).alloc (.cells #[.bool g2, .slice A2 n2 c2] 28) = W4 at *
      generalize w2.heap.size = g7 at *
      obtain ⟨gr, Ar, nr, cr, Sr, Ir⟩ := BQ (g7 + 1, x % y) (by simp)
      have ⟨y0, y1, y2, y3, _⟩ := Sx4
      have ⟨y4, y5, y6, y7, _⟩ := Sy4
      have ⟨y8, y9, _, _, _⟩ := Sr
      go_region
      have Sy5 := Sy4.far2 (g' := w.heap.size) (by omega) (.bool gy) (.slice Ay ny cy)
      have F1 : IntAt _ w.heap.size y := (IntAt.near2 Iy4 Sx4 rfl rfl).far2 (show w.heap.size ≠ w.heap.size + 1 by omega) Sy5 rfl rfl (.bool gr) (.slice Ar nr cr)
      have F2 : IntAt _ (w.heap.size + 1) (x % y) := IntAt.near2 (Ir.set2 Sx4 rfl rfl (.bool gy) (.slice Ay ny cy)) Sy5 rfl rfl
      have F3 := (R4.far2 (g' := w.heap.size) (by omega) (.bool gy) (.slice Ay ny cy)).far2 (g' := w.heap.size + 1) (by omega) (.bool gr) (.slice Ar nr cr)
      have F4 := Below.set2 (Below.set2 B4 (Nat.le_refl _) (.bool gy) (.slice Ay ny cy)) (Nat.le_succ _) (.bool gr) (.slice Ar nr cr)
      clear y0 y1 y2 y3 y4 y5 y6 y7 y8 y9
      go_wp2_with fail
      go_roundg (x % y).natAbs
      case measure => have := hg.out; omega
      case rel => exact ⟨y, x % y, F1.after (Below.refl _ _).drew, F2.after (Below.refl _ _).drew, rfl, HGS.out.trans hgcd.out, sy, zr, F3.drew, F4.drew⟩
end Go.Proofs.YtclmenpclkmfeaaDoor
namespace Go.Proofs.YtclmenpclkmfeaaDoor
open Go.RowKit
theorem noRet {w w' : World} {gn gd : Bool} {An Ad : Option Addr} {nn cn nd cd : Nat} {q : Rat} (h : IsRat w gn An nn cn gd Ad nd cd q) (hb : Below w.heap.size w w') : IsRat w' gn An nn cn gd Ad nd cd q := h.below hb

/-- What both divisions of Of are, for a positive denominator. -/
theorem rq_facts {k : Nat} (n d : Int) (sd : Sz k d) (hd : 0 < d) : ∃ g' : Int, ((Nat.gcd n.natAbs d.natAbs : Nat) : Int) = g' ∧ (n / g' = (Rat.divInt n d).num ∧ d / g' = ((Rat.divInt n d).den : Int)) ∧ g' ≠ 0 ∧ Sz k g' := by
  have hgp : 0 < Nat.gcd n.natAbs d.natAbs := Nat.gcd_pos_of_pos_right _ (by omega)
  have hgle : Nat.gcd n.natAbs d.natAbs ≤ d.natAbs := Nat.gcd_le_right _ (by omega)
  exact ⟨_, rfl, ⟨r_num n d hd, r_den n d hd⟩, by omega, Sz.of (by have := sd.lt; omega) sd.le⟩

set_option maxRecDepth 1000000 in
set_option maxHeartbeats 4000000 in
theorem rqof_pos (gn : Bool) (An : Option Addr) (nn cn : Nat) (gd : Bool) (Ad : Option Addr) (nd cd : Nat) {k : Nat} {n d : Int} (w : World) (hn : IsInt w gn An nn cn n) (hd : IsInt w gd Ad nd cd d) (zn : Sz k n) (zd : Sz k d) (hk : k + 1 + 1 ≤ 10000) (h0 : 0 < d) :
    Calls Tryd.prog 36 #[.agg #[.bool gn, .slice An nn cn], .agg #[.bool gd, .slice Ad nd cd]] w (RetRatE w (Rat.divInt n d) 0) := by
  obtain ⟨g', hg', hq, hg0, zg⟩ := rq_facts n d zd h0
  have HG := Lib.hid hg'
  have HQ := Lib.hid hq
  have HS : Hid (sgn d = 1) := by show sgn d = 1; unfold sgn; rw [if_neg (by omega), if_pos h0]
  clear hg' hq h0
  have b1 := (Below.refl w.heap.size w).alloc (Nat.le_refl _) (.cells #[.bool gn, .slice An nn cn] 28)
  have b2 := b1.alloc b1.size (.cells #[.bool gd, .slice Ad nd cd] 28)
  have B0 := b2.alloc b2.size (.cells #[.bool false, .slice none 0 0, .bool false, .slice none 0 0] 57)
  have P0 := ((Slot2.new w (.bool gn) (.slice An nn cn) 28).alloc (.cells #[.bool gd, .slice Ad nd cd] 28)).alloc (.cells #[.bool false, .slice none 0 0, .bool false, .slice none 0 0] 57)
  have Q0 := (Slot2.new (w.alloc (.cells #[.bool gn, .slice An nn cn] 28)) (.bool gd) (.slice Ad nd cd) 28).alloc (.cells #[.bool false, .slice none 0 0, .bool false, .slice none 0 0] 57)
  have R0 := Slot4.new ((w.alloc (.cells #[.bool gn, .slice An nn cn] 28)).alloc (.cells #[.bool gd, .slice Ad nd cd] 28)) (.bool false) (.slice none 0 0) (.bool false) (.slice none 0 0) 57
  simp only [World.size_alloc] at Q0 R0
  have In := hn.below B0
  have Id := hd.below B0
  clear hn hd b1 b2
  have ⟨q0, q1, _, _, _⟩ := Q0
  go_enter Tryd.func36, Tryd.ntmps36
  generalize hW : ((w.alloc (.cells #[.bool gn, .slice An nn cn] 28)).alloc (.cells #[.bool gd, .slice Ad nd cd] 28)).alloc (.cells #[.bool false, .slice none 0 0, .bool false, .slice none 0 0] 57) = W0 at *
  go_wp2_with fail
  try rw [hW]
  clear hW
  (with_reducible refine (rsign_z gd Ad nd cd _ 1 Id HS.out).mono ?_)
  rintro e w1 ⟨rfl, hb1⟩
  have Q1 := Q0.after hb1
  have ⟨y0, y1, _, _, _⟩ := Q1
  clear q0 q1
  go_wp2_with fail
  (with_reducible refine (rsign_z gd Ad nd cd _ 1 (Id.below hb1) HS.out).mono ?_)
  rintro e w2 ⟨rfl, hb2⟩
  have hb := hb1.trans (hb2.mono hb1.size)
  have P := P0.after hb
  have Q := Q0.after hb
  have R := R0.after hb
  have Jn := In.below hb
  have Jd := Id.below hb
  have B := B0.trans (hb.mono B0.size)
  clear y0 y1 P0 Q0 R0 Q1 In Id B0 hb hb1 hb2
  have ⟨p0, p1, _, _, _⟩ := P
  have ⟨q0, q1, _, _, _⟩ := Q
  go_wp2_with fail
  (with_reducible refine (rgcd_z gn gd An Ad nn cn nd cd _ Jn Jd zn zd hk).mono ?_)
  rintro e w2 ⟨g2, A2, n2, c2, rfl, hi2, hb2⟩
  rw [HG.out] at hi2
  have hn2 := (Below.refl w2.heap.size w2).alloc (Nat.le_refl _) (.cells #[.bool g2, .slice A2 n2 c2] 28)
  have hb3 := hb2.trans (hn2.mono hb2.size)
  have G3 := Slot2.new w2 (.bool g2) (.slice A2 n2 c2) 28
  have Jg3 := hi2.below hn2
  have P3 := P.after hb3
  have Q3 := Q.after hb3
  have R3 := R.after hb3
  have Jn3 := Jn.below hb3
  have Jd3 := Jd.below hb3
  have B3 := B.trans (hb3.mono B.size)
  clear P Q R Jn Jd B p0 p1 q0 q1 hb2 hb3 hi2 hn2
  have ⟨p0, p1, _, _, _⟩ := P3
  have ⟨g0, g1, _, _, _⟩ := G3
  generalize hW : w2.alloc (.cells #[.bool g2, .slice A2 n2 c2] 28) = W3 at *
  go_wp2_with fail
  try rw [hW]
  clear hW
  (with_reducible refine (rdm_z gn g2 An A2 nn cn n2 c2 _ Jn3 Jg3 zn zg hg0 hk).mono ?_)
  rintro e w6 ⟨g5, A5, n5, c5, g6, A6, n6, c6, rfl, hi5, hi6, hb6⟩
  rw [HQ.out.1] at hi5
  have b7 := (Below.refl w6.heap.size w6).alloc (Nat.le_refl _) (.cells #[.bool g5, .slice A5 n5 c5] 28)
  have b8 := b7.alloc b7.size (.cells #[.bool g6, .slice A6 n6 c6] 28)
  have hb8 := hb6.trans (b8.mono hb6.size)
  have X8 := (Slot2.new w6 (.bool g5) (.slice A5 n5 c5) 28).alloc (.cells #[.bool g6, .slice A6 n6 c6] 28)
  have Jx8 := hi5.below b8
  have Q8 := Q3.after hb8
  have R8 := R3.after hb8
  have G8 := G3.after hb8
  have Jd8 := Jd3.below hb8
  have Jg8 := Jg3.below hb8
  have B8 := B3.trans (hb8.mono B3.size)
  clear P3 Q3 R3 G3 Jn3 Jd3 Jg3 B3 p0 p1 g0 g1 b7 b8 hb6 hb8 hi5 hi6
  have ⟨q0, q1, _, _, _⟩ := Q8
  have ⟨g0, g1, _, _, _⟩ := G8
  generalize hW : (w6.alloc (.cells #[.bool g5, .slice A5 n5 c5] 28)).alloc (.cells #[.bool g6, .slice A6 n6 c6] 28) = W8 at *
  go_wp2_with fail
  try rw [hW]
  clear hW
  (with_reducible refine (rdm_z gd g2 Ad A2 nd cd n2 c2 _ Jd8 Jg8 zd zg hg0 hk).mono ?_)
  rintro e w9 ⟨g9, A9, n9, c9, g10, A10, n10, c10, rfl, hi9, hi10, hb9⟩
  rw [HQ.out.2] at hi9
  have b11 := (Below.refl w9.heap.size w9).alloc (Nat.le_refl _) (.cells #[.bool g9, .slice A9 n9 c9] 28)
  have b12 := b11.alloc b11.size (.cells #[.bool g10, .slice A10 n10 c10] 28)
  have hb12 := hb9.trans (b12.mono hb9.size)
  have Y12 := (Slot2.new w9 (.bool g9) (.slice A9 n9 c9) 28).alloc (.cells #[.bool g10, .slice A10 n10 c10] 28)
  have Jy12 := hi9.below b12
  have X12 := X8.after hb12
  have Jx12 := Jx8.below hb12
  have R12 := R8.after hb12
  have B12 := B8.trans (hb12.mono B8.size)
  clear q0 q1 g0 g1 b11 b12 hb9 hb12 hi9 hi10 X8 Jx8 R8 B8 Q8 G8 Jd8 Jg8
  have ⟨x0, x1, _, _, _⟩ := X12
  have ⟨y0, y1, _, _, _⟩ := Y12
  have ⟨r0, r1, r2, r3, k0, k1, k2, k3, _⟩ := R12
  generalize hW : (w9.alloc (.cells #[.bool g9, .slice A9 n9 c9] 28)).alloc (.cells #[.bool g10, .slice A10 n10 c10] 28) = W12 at *
  go_wp2
  try rw [hW]
  clear hW
  refine bodyPost_ret (v := .tuple #[.agg #[.bool g5, .slice A5 n5 c5, .bool g9, .slice A9 n9 c9], .int .i64 0]) (by obtain ⟨v0, v1, v2, v3⟩ := R12.set4e (.bool g5) (.slice A5 n5 c5) (.bool g9) (.slice A9 n9 c9); simp [results, Tryd.results36, go_sem, v0, v1, v2, v3]) rfl ⟨_, _, _, _, _, _, _, _, rfl, ⟨Jx12.stored4 R12 rfl rfl rfl rfl _ _ _ _, Jy12.stored4 R12 rfl rfl rfl rfl _ _ _ _⟩, ?_⟩
  exact Below.set4 B12 (by omega) _ _ _ _
set_option maxRecDepth 1000000 in
set_option maxHeartbeats 4000000 in
theorem rqof_neg (gn : Bool) (An : Option Addr) (nn cn : Nat) (gd : Bool) (Ad : Option Addr) (nd cd : Nat) {k : Nat} {n e : Int} (w : World) (hn : IsInt w gn An nn cn n) (hd : IsInt w gd Ad nd cd e) (zn' : Sz k n) (zd' : Sz k e) (hk : k + 1 + 1 ≤ 10000) (h0 : e < 0) :
    Calls Tryd.prog 36 #[.agg #[.bool gn, .slice An nn cn], .agg #[.bool gd, .slice Ad nd cd]] w (RetRatE w (Rat.divInt n e) 0) := by
  obtain ⟨g', hg', hq, hg0, zg⟩ := rq_facts (-n) (-e) zd'.neg (by omega)
  rw [Rat.divInt_neg', Int.neg_neg] at hq
  have HG := Lib.hid hg'
  have HQ := Lib.hid hq
  have HS : Hid (sgn e = -1) := by show sgn e = -1; unfold sgn; rw [if_pos h0]
  have zn := zn'.neg
  have zd := zd'.neg
  clear hg' hq h0
  have b1 := (Below.refl w.heap.size w).alloc (Nat.le_refl _) (.cells #[.bool gn, .slice An nn cn] 28)
  have b2 := b1.alloc b1.size (.cells #[.bool gd, .slice Ad nd cd] 28)
  have B0 := b2.alloc b2.size (.cells #[.bool false, .slice none 0 0, .bool false, .slice none 0 0] 57)
  have P0 := ((Slot2.new w (.bool gn) (.slice An nn cn) 28).alloc (.cells #[.bool gd, .slice Ad nd cd] 28)).alloc (.cells #[.bool false, .slice none 0 0, .bool false, .slice none 0 0] 57)
  have Q0 := (Slot2.new (w.alloc (.cells #[.bool gn, .slice An nn cn] 28)) (.bool gd) (.slice Ad nd cd) 28).alloc (.cells #[.bool false, .slice none 0 0, .bool false, .slice none 0 0] 57)
  have R0 := Slot4.new ((w.alloc (.cells #[.bool gn, .slice An nn cn] 28)).alloc (.cells #[.bool gd, .slice Ad nd cd] 28)) (.bool false) (.slice none 0 0) (.bool false) (.slice none 0 0) 57
  simp only [World.size_alloc] at Q0 R0
  have In := hn.below B0
  have Id := hd.below B0
  clear hn hd b1 b2
  have ⟨q0, q1, _, _, _⟩ := Q0
  go_enter Tryd.func36, Tryd.ntmps36
  generalize hW : ((w.alloc (.cells #[.bool gn, .slice An nn cn] 28)).alloc (.cells #[.bool gd, .slice Ad nd cd] 28)).alloc (.cells #[.bool false, .slice none 0 0, .bool false, .slice none 0 0] 57) = W0 at *
  go_wp2_with fail
  try rw [hW]
  clear hW
  (with_reducible refine (rsign_z gd Ad nd cd _ (-1) Id HS.out).mono ?_)
  rintro ee w1 ⟨rfl, hb1⟩
  have Q1 := Q0.after hb1
  have ⟨y0, y1, _, _, _⟩ := Q1
  clear q0 q1
  go_wp2_with fail
  (with_reducible refine (rsign_z gd Ad nd cd _ (-1) (Id.below hb1) HS.out).mono ?_)
  rintro ee w2 ⟨rfl, hb2⟩
  have hb := hb1.trans (hb2.mono hb1.size)
  have P1 := P0.after hb
  have Q2 := Q0.after hb
  have HR : Hid (∀ V, Below w2.heap.size w2 V → Slot4 V (w.heap.size + 1 + 1) (.bool false) (.slice none 0 0) (.bool false) (.slice none 0 0)) := fun V hV => (R0.after hb).after hV
  have HR0 : Hid (Slot4 w2 (w.heap.size + 1 + 1) (.bool false) (.slice none 0 0) (.bool false) (.slice none 0 0)) := R0.after hb
  have Jn1 := In.below hb
  have Jd1 := Id.below hb
  have B1 := B0.trans (hb.mono B0.size)
  clear y0 y1 P0 Q0 R0 Q1 In Id B0 hb hb1 hb2 HR
  go_upto_region 4 with (fail)
  go_cut [] (fun wx => Below w.heap.size w wx ∧ IntAt wx w.heap.size (-n) ∧ IntAt wx (w.heap.size + 1) (-e) ∧ Slot4 wx (w.heap.size + 1 + 1) (.bool false) (.slice none 0 0) (.bool false) (.slice none 0 0))
  case first =>
    as_aux_lemma =>
      refine wp_region_ev (fun d a0 a' w' => ∃ u20 u21 u22 u23 : Value, a' = ((((a0.put (some 20) u20).put (some 21) u21).put (some 22) u22).put (some 23) u23) ∧ Below w.heap.size w w' ∧ (d 0 = true → IntV w' u20 (n)) ∧ (d 1 = true → IntV w' u21 (-n)) ∧ (d 2 = true → IntV w' u22 (e)) ∧ (d 3 = true → IntV w' u23 (-e)) ∧ (BlkI w' (w.heap.size) gn An nn cn (n) (d 4) (-n)) ∧ (BlkI w' (w.heap.size + 1) gd Ad nd cd (e) (d 5) (-e)) ∧ (Slot4 w' (w.heap.size + 1 + 1) (.bool false) (.slice none 0 0) (.bool false) (.slice none 0 0)) ∧ (d 4 = true → d 0 = true) ∧ (d 5 = true → d 2 = true)) (by kernel_rfl) (by kernel_rfl) ?_ ?_ ?_ ?_
      · intro d d' h a' w' hh
        obtain rfl : d = d' := funext h
        exact hh
      · exact ⟨_, _, _, _, (by simp only [Act.put, List.setIfInBounds_toArray, List.set_cons_zero, List.set_cons_succ]; rfl), Below.drew (B1), (fun h => by cases h), (fun h => by cases h), (fun h => by cases h), (fun h => by cases h), (BlkI.start P1 Jn1), (BlkI.start Q2 Jd1), (Slot4.drew (HR0.out)), (fun h => by cases h), (fun h => by cases h)⟩
      · refine ⟨?_, ?_, ?_, ?_, ?_, ?_, trivial⟩
        · intro d a2 w2 hd hm ⟨u20, u21, u22, u23, e, HB, f0, f1, f2, f3, kP, kQ, kR, o4_0, o5_2⟩ K hK
          subst e
          simp only [Act.put, List.setIfInBounds_toArray, List.set_cons_zero, List.set_cons_succ]
          have hs : d 4 = false := by cases hq : d 4 with | false => rfl | true => (have hz := o4_0 hq; rw [hd] at hz; cases hz)
          have ⟨⟨y0, y1, _, _, _⟩, iL⟩ := kP.1 hs
          clear hs
          go_simp
          exact hK.out _ _ ⟨.agg #[.bool gn, .slice An nn cn], u21, u22, u23, (by simp only [Act.put, List.setIfInBounds_toArray, List.set_cons_zero, List.set_cons_succ]), HB, (fun _ => ⟨_, _, _, _, rfl, iL⟩), (fun h => (f1 (by simpa using h))), (fun h => (f2 (by simpa using h))), (fun h => (f3 (by simpa using h))), (by simpa using (kP)), (by simpa using (kQ)), kR, (fun _ => by simp), (fun h => by simpa using o5_2 (by simpa using h))⟩
        · intro d a2 w2 hd hm ⟨u20, u21, u22, u23, e, HB, f0, f1, f2, f3, kP, kQ, kR, o4_0, o5_2⟩ K hK
          subst e
          simp only [Act.put, List.setIfInBounds_toArray, List.set_cons_zero, List.set_cons_succ]
          obtain ⟨G0, A0, N0, C0, rfl, I0⟩ := f0 (hm ⟨0, .data⟩ (by simp) rfl)
          go_simp
          (with_reducible refine (rneg_z G0 A0 N0 C0 _ I0 zn').mono ?_)
          rintro e w3 ⟨gg, AA, nn, cc, rfl, hi, hb⟩
          have HB3 := HB.trans (hb.mono HB.size)
          go_wp2_with fail
          exact hK.out _ _ ⟨.agg #[.bool G0, .slice A0 N0 C0], .agg #[.bool gg, .slice AA nn cc], u22, u23, (by simp only [Act.put, List.setIfInBounds_toArray, List.set_cons_zero, List.set_cons_succ]), HB3, (fun h => (f0 (by simpa using h)).below hb), (fun _ => ⟨_, _, _, _, rfl, hi⟩), (fun h => (f2 (by simpa using h)).below hb), (fun h => (f3 (by simpa using h)).below hb), (by simpa using (kP).below hb), (by simpa using (kQ).below hb), (kR.after hb), (fun h => by simpa using o4_0 (by simpa using h)), (fun h => by simpa using o5_2 (by simpa using h))⟩
        · intro d a2 w2 hd hm ⟨u20, u21, u22, u23, e, HB, f0, f1, f2, f3, kP, kQ, kR, o4_0, o5_2⟩ K hK
          subst e
          simp only [Act.put, List.setIfInBounds_toArray, List.set_cons_zero, List.set_cons_succ]
          have hs : d 5 = false := by cases hq : d 5 with | false => rfl | true => (have hz := o5_2 hq; rw [hd] at hz; cases hz)
          have ⟨⟨y0, y1, _, _, _⟩, iL⟩ := kQ.1 hs
          clear hs
          go_simp
          exact hK.out _ _ ⟨u20, u21, .agg #[.bool gd, .slice Ad nd cd], u23, (by simp only [Act.put, List.setIfInBounds_toArray, List.set_cons_zero, List.set_cons_succ]), HB, (fun h => (f0 (by simpa using h))), (fun h => (f1 (by simpa using h))), (fun _ => ⟨_, _, _, _, rfl, iL⟩), (fun h => (f3 (by simpa using h))), (by simpa using (kP)), (by simpa using (kQ)), kR, (fun h => by simpa using o4_0 (by simpa using h)), (fun _ => by simp)⟩
        · intro d a2 w2 hd hm ⟨u20, u21, u22, u23, e, HB, f0, f1, f2, f3, kP, kQ, kR, o4_0, o5_2⟩ K hK
          subst e
          simp only [Act.put, List.setIfInBounds_toArray, List.set_cons_zero, List.set_cons_succ]
          obtain ⟨G2, A2, N2, C2, rfl, I2⟩ := f2 (hm ⟨2, .data⟩ (by simp) rfl)
          go_simp
          (with_reducible refine (rneg_z G2 A2 N2 C2 _ I2 zd').mono ?_)
          rintro e w3 ⟨gg, AA, nn, cc, rfl, hi, hb⟩
          have HB3 := HB.trans (hb.mono HB.size)
          go_wp2_with fail
          exact hK.out _ _ ⟨u20, u21, .agg #[.bool G2, .slice A2 N2 C2], .agg #[.bool gg, .slice AA nn cc], (by simp only [Act.put, List.setIfInBounds_toArray, List.set_cons_zero, List.set_cons_succ]), HB3, (fun h => (f0 (by simpa using h)).below hb), (fun h => (f1 (by simpa using h)).below hb), (fun h => (f2 (by simpa using h)).below hb), (fun _ => ⟨_, _, _, _, rfl, hi⟩), (by simpa using (kP).below hb), (by simpa using (kQ).below hb), (kR.after hb), (fun h => by simpa using o4_0 (by simpa using h)), (fun h => by simpa using o5_2 (by simpa using h))⟩
        · intro d a2 w2 hd hm ⟨u20, u21, u22, u23, e, HB, f0, f1, f2, f3, kP, kQ, kR, o4_0, o5_2⟩ K hK
          subst e
          simp only [Act.put, List.setIfInBounds_toArray, List.set_cons_zero, List.set_cons_succ]
          obtain ⟨gg, AA, nn, cc, rfl, hi⟩ := f1 (hm ⟨1, .data⟩ (by simp) rfl)
          have hs := (kP.1 hd).1
          obtain ⟨k0, k1, k2, k3, k4⟩ := id hs
          go_simp
          exact hK.out _ _ ⟨u20, .agg #[.bool gg, .slice AA nn cc], u22, u23, (by simp only [Act.put, List.setIfInBounds_toArray, List.set_cons_zero, List.set_cons_succ]), Below.set2 HB (by omega) _ _, (fun h => (f0 (by simpa using h)).set2 hs rfl rfl _ _), (fun h => (f1 (by simpa using h)).set2 hs rfl rfl _ _), (fun h => (f2 (by simpa using h)).set2 hs rfl rfl _ _), (fun h => (f3 (by simpa using h)).set2 hs rfl rfl _ _), (by simpa using BlkI.near hi hs), (by simpa using (kQ).far2 (by omega) hs rfl rfl _ _), ((kR).far2 (by omega) _ _), (fun _ => by simpa using hm ⟨0, .phase⟩ (by simp) rfl), (fun h => by simpa using o5_2 (by simpa using h))⟩
        · intro d a2 w2 hd hm ⟨u20, u21, u22, u23, e, HB, f0, f1, f2, f3, kP, kQ, kR, o4_0, o5_2⟩ K hK
          subst e
          simp only [Act.put, List.setIfInBounds_toArray, List.set_cons_zero, List.set_cons_succ]
          obtain ⟨gg, AA, nn, cc, rfl, hi⟩ := f3 (hm ⟨3, .data⟩ (by simp) rfl)
          have hs := (kQ.1 hd).1
          obtain ⟨k0, k1, k2, k3, k4⟩ := id hs
          go_simp
          exact hK.out _ _ ⟨u20, u21, u22, .agg #[.bool gg, .slice AA nn cc], (by simp only [Act.put, List.setIfInBounds_toArray, List.set_cons_zero, List.set_cons_succ]), Below.set2 HB (by omega) _ _, (fun h => (f0 (by simpa using h)).set2 hs rfl rfl _ _), (fun h => (f1 (by simpa using h)).set2 hs rfl rfl _ _), (fun h => (f2 (by simpa using h)).set2 hs rfl rfl _ _), (fun h => (f3 (by simpa using h)).set2 hs rfl rfl _ _), (by simpa using (kP).far2 (by omega) hs rfl rfl _ _), (by simpa using BlkI.near hi hs), ((kR).far2 (by omega) _ _), (fun h => by simpa using o4_0 (by simpa using h)), (fun _ => by simpa using hm ⟨2, .phase⟩ (by simp) rfl)⟩
      · intro d a2 w2 hall ⟨u20, u21, u22, u23, e, HB, f0, f1, f2, f3, kP, kQ, kR, o4_0, o5_2⟩
        subst e
        simp only [Act.put, List.setIfInBounds_toArray, List.set_cons_zero, List.set_cons_succ]
        have eP := kP.2 (hall _ (by decide))
        have eQ := kQ.2 (hall _ (by decide))
        have eR := kR
        go_wp2_with fail
        go_meet
        exact ⟨HB, eP, eQ, eR⟩
  case rest =>
  obtain ⟨B, ⟨gN, AN, nN, cN, P, Jn⟩, ⟨gD, AD, nD, cD, Q, Jd⟩, R⟩ := hcut
  obtain ⟨W4, rfl⟩ : ∃ x : World, x = wc := ⟨_, rfl⟩
  clear P1 Q2 HR0 Jn1 Jd1 B1
  have ⟨p0, p1, _, _, _⟩ := P
  have ⟨q0, q1, _, _, _⟩ := Q
  go_wp2_with fail
  (with_reducible refine (rgcd_z gN gD AN AD nN cN nD cD _ Jn Jd zn zd hk).mono ?_)
  rintro e w2 ⟨g2, A2, n2, c2, rfl, hi2, hb2⟩
  rw [HG.out] at hi2
  have hn2 := (Below.refl w2.heap.size w2).alloc (Nat.le_refl _) (.cells #[.bool g2, .slice A2 n2 c2] 28)
  have hb3 := hb2.trans (hn2.mono hb2.size)
  have G3 := Slot2.new w2 (.bool g2) (.slice A2 n2 c2) 28
  have Jg3 := hi2.below hn2
  have P3 := P.after hb3
  have Q3 := Q.after hb3
  have R3 := R.after hb3
  have Jn3 := Jn.below hb3
  have Jd3 := Jd.below hb3
  have B3 := B.trans (hb3.mono B.size)
  clear P Q R Jn Jd B p0 p1 q0 q1 hb2 hb3 hi2 hn2
  have ⟨p0, p1, _, _, _⟩ := P3
  have ⟨g0, g1, _, _, _⟩ := G3
  generalize hW : w2.alloc (.cells #[.bool g2, .slice A2 n2 c2] 28) = W3 at *
  go_wp2_with fail
  try rw [hW]
  clear hW
  (with_reducible refine (rdm_z gN g2 AN A2 nN cN n2 c2 _ Jn3 Jg3 zn zg hg0 hk).mono ?_)
  rintro e w6 ⟨g5, A5, n5, c5, g6, A6, n6, c6, rfl, hi5, hi6, hb6⟩
  rw [HQ.out.1] at hi5
  have b7 := (Below.refl w6.heap.size w6).alloc (Nat.le_refl _) (.cells #[.bool g5, .slice A5 n5 c5] 28)
  have b8 := b7.alloc b7.size (.cells #[.bool g6, .slice A6 n6 c6] 28)
  have hb8 := hb6.trans (b8.mono hb6.size)
  have X8 := (Slot2.new w6 (.bool g5) (.slice A5 n5 c5) 28).alloc (.cells #[.bool g6, .slice A6 n6 c6] 28)
  have Jx8 := hi5.below b8
  have Q8 := Q3.after hb8
  have R8 := R3.after hb8
  have G8 := G3.after hb8
  have Jd8 := Jd3.below hb8
  have Jg8 := Jg3.below hb8
  have B8 := B3.trans (hb8.mono B3.size)
  clear P3 Q3 R3 G3 Jn3 Jd3 Jg3 B3 p0 p1 g0 g1 b7 b8 hb6 hb8 hi5 hi6
  have ⟨q0, q1, _, _, _⟩ := Q8
  have ⟨g0, g1, _, _, _⟩ := G8
  generalize hW : (w6.alloc (.cells #[.bool g5, .slice A5 n5 c5] 28)).alloc (.cells #[.bool g6, .slice A6 n6 c6] 28) = W8 at *
  go_wp2_with fail
  try rw [hW]
  clear hW
  (with_reducible refine (rdm_z gD g2 AD A2 nD cD n2 c2 _ Jd8 Jg8 zd zg hg0 hk).mono ?_)
  rintro e w9 ⟨g9, A9, n9, c9, g10, A10, n10, c10, rfl, hi9, hi10, hb9⟩
  rw [HQ.out.2] at hi9
  have b11 := (Below.refl w9.heap.size w9).alloc (Nat.le_refl _) (.cells #[.bool g9, .slice A9 n9 c9] 28)
  have b12 := b11.alloc b11.size (.cells #[.bool g10, .slice A10 n10 c10] 28)
  have hb12 := hb9.trans (b12.mono hb9.size)
  have Y12 := (Slot2.new w9 (.bool g9) (.slice A9 n9 c9) 28).alloc (.cells #[.bool g10, .slice A10 n10 c10] 28)
  have Jy12 := hi9.below b12
  have X12 := X8.after hb12
  have Jx12 := Jx8.below hb12
  have R12 := R8.after hb12
  have B12 := B8.trans (hb12.mono B8.size)
  clear q0 q1 g0 g1 b11 b12 hb9 hb12 hi9 hi10 X8 Jx8 R8 B8 Q8 G8 Jd8 Jg8
  have ⟨x0, x1, _, _, _⟩ := X12
  have ⟨y0, y1, _, _, _⟩ := Y12
  have ⟨r0, r1, r2, r3, k0, k1, k2, k3, _⟩ := R12
  generalize hW : (w9.alloc (.cells #[.bool g9, .slice A9 n9 c9] 28)).alloc (.cells #[.bool g10, .slice A10 n10 c10] 28) = W12 at *
  go_wp2
  try rw [hW]
  clear hW
  refine bodyPost_ret (v := .tuple #[.agg #[.bool g5, .slice A5 n5 c5, .bool g9, .slice A9 n9 c9], .int .i64 0]) (by obtain ⟨v0, v1, v2, v3⟩ := R12.set4e (.bool g5) (.slice A5 n5 c5) (.bool g9) (.slice A9 n9 c9); simp [results, Tryd.results36, go_sem, v0, v1, v2, v3]) rfl ⟨_, _, _, _, _, _, _, _, rfl, ⟨Jx12.stored4 R12 rfl rfl rfl rfl _ _ _ _, Jy12.stored4 R12 rfl rfl rfl rfl _ _ _ _⟩, ?_⟩
  exact Below.set4 B12 (by omega) _ _ _ _
theorem rqof_z (gn : Bool) (An : Option Addr) (nn cn : Nat) (gd : Bool) (Ad : Option Addr) (nd cd : Nat) {k : Nat} {n d : Int} (w : World) (hn : IsInt w gn An nn cn n) (hd : IsInt w gd Ad nd cd d) (zn : Sz k n) (zd : Sz k d) (hk : k + 1 + 1 ≤ 10000) (h0 : d ≠ 0) :
    Calls Tryd.prog 36 #[.agg #[.bool gn, .slice An nn cn], .agg #[.bool gd, .slice Ad nd cd]] w (RetRatE w (Rat.divInt n d) 0) := by
  rcases Int.lt_or_lt_of_ne h0 with h | h
  · exact rqof_neg gn An nn cn gd Ad nd cd w hn hd zn zd hk h
  · exact rqof_pos gn An nn cn gd Ad nd cd w hn hd zn zd hk h
set_option maxRecDepth 1000000 in
set_option maxHeartbeats 4000000 in
theorem rqsame_z (gxn : Bool) (Axn : Option Addr) (nxn cxn : Nat) (gxd : Bool) (Axd : Option Addr) (nxd cxd : Nat) (gyn : Bool) (Ayn : Option Addr) (nyn cyn : Nat) (gyd : Bool) (Ayd : Option Addr) (nyd cyd : Nat) {a b : Rat} (w : World) (ha : IsRat w gxn Axn nxn cxn gxd Axd nxd cxd a) (hb : IsRat w gyn Ayn nyn cyn gyd Ayd nyd cyd b) (h : a = b) :
    Calls Tryd.prog 29 #[.agg #[.bool gxn, .slice Axn nxn cxn, .bool gxd, .slice Axd nxd cxd], .agg #[.bool gyn, .slice Ayn nyn cyn, .bool gyd, .slice Ayd nyd cyd]] w fun e w' => e = .returned (.bool true) ∧ Below w.heap.size w w' := by
  obtain ⟨B0, X0, Y0⟩ := frameQ2p w (.bool gxn) (.slice Axn nxn cxn) (.bool gxd) (.slice Axd nxd cxd) (.bool gyn) (.slice Ayn nyn cyn) (.bool gyd) (.slice Ayd nyd cyd) 57 57
  have Ix := ha.below B0
  have Iy := hb.below B0
  clear ha hb
  have ⟨x0, x1, x2, x3, _⟩ := X0
  have ⟨y0, y1, y2, y3, _⟩ := Y0
  go_enter Tryd.func29, Tryd.ntmps29
  go_wp2_with fail
  (with_reducible refine (same_v gxn gyn Axn Ayn nxn cxn nyn cyn _ true Ix.num Iy.num (by rw [h]; simp)).mono ?_)
  rintro e w1 ⟨rfl, bp1⟩
  have ⟨x0', x1', x2', x3', _⟩ := X0.after bp1
  have ⟨y0', y1', y2', y3', _⟩ := Y0.after bp1
  have Jx := Ix.below bp1
  have Jy := Iy.below bp1
  clear x0 x1 x2 x3 y0 y1 y2 y3 Ix Iy
  go_wp2_with fail
  (with_reducible refine (same_v gxd gyd Axd Ayd nxd cxd nyd cyd _ true Jx.den Jy.den (by rw [h]; simp)).mono ?_)
  rintro e w2 ⟨rfl, bp2⟩
  go_wp2
  go_ret
  exact ⟨rfl, (B0.trans (bp1.mono B0.size)).trans (bp2.mono (B0.trans (bp1.mono B0.size)).size)⟩
set_option maxRecDepth 1000000 in
set_option maxHeartbeats 4000000 in
theorem rqsame_n (gxn : Bool) (Axn : Option Addr) (nxn cxn : Nat) (gxd : Bool) (Axd : Option Addr) (nxd cxd : Nat) (gyn : Bool) (Ayn : Option Addr) (nyn cyn : Nat) (gyd : Bool) (Ayd : Option Addr) (nyd cyd : Nat) {a b : Rat} (w : World) (ha : IsRat w gxn Axn nxn cxn gxd Axd nxd cxd a) (hb : IsRat w gyn Ayn nyn cyn gyd Ayd nyd cyd b) (h : a.num ≠ b.num) :
    Calls Tryd.prog 29 #[.agg #[.bool gxn, .slice Axn nxn cxn, .bool gxd, .slice Axd nxd cxd], .agg #[.bool gyn, .slice Ayn nyn cyn, .bool gyd, .slice Ayd nyd cyd]] w fun e w' => e = .returned (.bool false) ∧ Below w.heap.size w w' := by
  obtain ⟨B0, X0, Y0⟩ := frameQ2p w (.bool gxn) (.slice Axn nxn cxn) (.bool gxd) (.slice Axd nxd cxd) (.bool gyn) (.slice Ayn nyn cyn) (.bool gyd) (.slice Ayd nyd cyd) 57 57
  have Ix := ha.below B0
  have Iy := hb.below B0
  clear ha hb
  have ⟨x0, x1, x2, x3, _⟩ := X0
  have ⟨y0, y1, y2, y3, _⟩ := Y0
  go_enter Tryd.func29, Tryd.ntmps29
  go_wp2_with fail
  (with_reducible refine (same_v gxn gyn Axn Ayn nxn cxn nyn cyn _ false Ix.num Iy.num (by simpa using h)).mono ?_)
  rintro e w1 ⟨rfl, bp1⟩
  go_wp2
  go_ret
  exact ⟨rfl, B0.trans (bp1.mono B0.size)⟩
set_option maxRecDepth 1000000 in
set_option maxHeartbeats 4000000 in
theorem rqsame_d (gxn : Bool) (Axn : Option Addr) (nxn cxn : Nat) (gxd : Bool) (Axd : Option Addr) (nxd cxd : Nat) (gyn : Bool) (Ayn : Option Addr) (nyn cyn : Nat) (gyd : Bool) (Ayd : Option Addr) (nyd cyd : Nat) {a b : Rat} (w : World) (ha : IsRat w gxn Axn nxn cxn gxd Axd nxd cxd a) (hb : IsRat w gyn Ayn nyn cyn gyd Ayd nyd cyd b) (h : a.num = b.num) (h2 : (a.den : Int) ≠ b.den) :
    Calls Tryd.prog 29 #[.agg #[.bool gxn, .slice Axn nxn cxn, .bool gxd, .slice Axd nxd cxd], .agg #[.bool gyn, .slice Ayn nyn cyn, .bool gyd, .slice Ayd nyd cyd]] w fun e w' => e = .returned (.bool false) ∧ Below w.heap.size w w' := by
  obtain ⟨B0, X0, Y0⟩ := frameQ2p w (.bool gxn) (.slice Axn nxn cxn) (.bool gxd) (.slice Axd nxd cxd) (.bool gyn) (.slice Ayn nyn cyn) (.bool gyd) (.slice Ayd nyd cyd) 57 57
  have Ix := ha.below B0
  have Iy := hb.below B0
  clear ha hb
  have ⟨x0, x1, x2, x3, _⟩ := X0
  have ⟨y0, y1, y2, y3, _⟩ := Y0
  go_enter Tryd.func29, Tryd.ntmps29
  go_wp2_with fail
  (with_reducible refine (same_v gxn gyn Axn Ayn nxn cxn nyn cyn _ true Ix.num Iy.num (by simpa using h)).mono ?_)
  rintro e w1 ⟨rfl, bp1⟩
  have ⟨x0', x1', x2', x3', _⟩ := X0.after bp1
  have ⟨y0', y1', y2', y3', _⟩ := Y0.after bp1
  have Jx := Ix.below bp1
  have Jy := Iy.below bp1
  clear x0 x1 x2 x3 y0 y1 y2 y3 Ix Iy
  go_wp2_with fail
  (with_reducible refine (same_v gxd gyd Axd Ayd nxd cxd nyd cyd _ false Jx.den Jy.den (by simpa using h2)).mono ?_)
  rintro e w2 ⟨rfl, bp2⟩
  go_wp2
  go_ret
  exact ⟨rfl, (B0.trans (bp1.mono B0.size)).trans (bp2.mono (B0.trans (bp1.mono B0.size)).size)⟩
theorem rqsame_v (gxn : Bool) (Axn : Option Addr) (nxn cxn : Nat) (gxd : Bool) (Axd : Option Addr) (nxd cxd : Nat) (gyn : Bool) (Ayn : Option Addr) (nyn cyn : Nat) (gyd : Bool) (Ayd : Option Addr) (nyd cyd : Nat) {a b : Rat} (w : World) (v : Bool) (ha : IsRat w gxn Axn nxn cxn gxd Axd nxd cxd a) (hb : IsRat w gyn Ayn nyn cyn gyd Ayd nyd cyd b) (h : v = decide (a = b)) :
    Calls Tryd.prog 29 #[.agg #[.bool gxn, .slice Axn nxn cxn, .bool gxd, .slice Axd nxd cxd], .agg #[.bool gyn, .slice Ayn nyn cyn, .bool gyd, .slice Ayd nyd cyd]] w fun e w' => e = .returned (.bool v) ∧ Below w.heap.size w w' := by
  subst h
  by_cases h : a = b
  · rw [decide_eq_true h]; exact rqsame_z gxn Axn nxn cxn gxd Axd nxd cxd gyn Ayn nyn cyn gyd Ayd nyd cyd w ha hb h
  · rw [decide_eq_false h]
    by_cases h1 : a.num = b.num
    · exact rqsame_d gxn Axn nxn cxn gxd Axd nxd cxd gyn Ayn nyn cyn gyd Ayd nyd cyd w ha hb h1 (fun h2 => h (q_ext a b h1 h2))
    · exact rqsame_n gxn Axn nxn cxn gxd Axd nxd cxd gyn Ayn nyn cyn gyd Ayd nyd cyd w ha hb h1
end Go.Proofs.YtclmenpclkmfeaaDoor
