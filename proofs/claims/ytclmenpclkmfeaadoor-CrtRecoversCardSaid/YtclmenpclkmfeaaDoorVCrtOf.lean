/- Contract of torsionref04.Of; the residues of an integer. -/
import Derived.Test.YtclmenpclkmfeaaDoorVCrtO
import Derived.Test.YtclmenpclkmfeaaDoorVRSmall
namespace Go.Proofs.YtclmenpclkmfeaaDoor
open Go.RowKit Go.Maps
/-- The residues of z. -/
def resOf (L : List (Nat × Nat)) (z : Int) : List (Nat × Nat) := L.map fun x => (x.1, (z % (x.1 : Int)).toNat)
theorem resOf_len (L : List (Nat × Nat)) (z : Int) : (resOf L z).length = L.length := by simp [resOf]
theorem resOf_get {L : List (Nat × Nat)} {z : Int} {k : Nat} (hk : k < L.length) : (resOf L z).getD k (0, 0) = ((L.getD k (0, 0)).1, (z % ((L.getD k (0, 0)).1 : Int)).toNat) := by
  unfold resOf
  rw [List.getD_eq_getElem?_getD, List.getElem?_map, List.getD_eq_getElem?_getD, List.getElem?_eq_getElem hk]
  rfl
theorem resOf_take {L : List (Nat × Nat)} {z : Int} {k : Nat} (hk : k < L.length) : resOf (L.take (k + 1)) z = resOf (L.take k) z ++ [((L.getD k (0, 0)).1, (z % ((L.getD k (0, 0)).1 : Int)).toNat)] := by
  unfold resOf
  rw [List.take_add_one, List.getElem?_eq_getElem hk, List.getD_eq_getElem?_getD, List.getElem?_eq_getElem hk, List.map_append]
  rfl
theorem resOf_prod (z : Int) : ∀ L, prodP (resOf L z) = prodP L
  | [] => rfl
  | x :: l => by
    show x.1 * prodP (resOf l z) = x.1 * prodP l
    rw [resOf_prod z l]
theorem mod_toNat {z : Int} {p : Nat} (hp : 0 < p) : ((z % (p : Int)).toNat : Int) = z % (p : Int) ∧ (z % (p : Int)).toNat < p := by
  have h1 := Int.emod_nonneg z (show (p : Int) ≠ 0 by omega)
  have h2 := Int.emod_lt_of_pos z (show (0 : Int) < p by omega)
  omega
theorem OkR.of {L : List (Nat × Nat)} (h : OkR L) (z : Int) : OkR (resOf L z) := by
  obtain ⟨h1, h2⟩ := okR_iff.1 h
  refine okR_iff.2 ⟨fun k hk => ?_, fun j k hjk hk => ?_⟩
  · rw [resOf_len] at hk
    rw [resOf_get hk]
    have h3 := h1 k hk
    exact ⟨(mod_toNat (by omega)).2, h3.2⟩
  · rw [resOf_len] at hk
    rw [resOf_get hk, resOf_get (by omega)]
    exact h2 j k hjk hk
theorem PrL.of {L : List (Nat × Nat)} (h : PrL L) (z : Int) : PrL (resOf L z) := fun x hx => by
  obtain ⟨y, hy, rfl⟩ := List.mem_map.1 hx
  exact h y hy
/-- Which integers have these residues. -/
theorem cons_of {L : List (Nat × Nat)} (hok : OkR L) (hp : PrL L) (z y : Int) : Cons (resOf L z) y ↔ (z - y) % ((prodP L : Nat) : Int) = 0 := by
  refine ⟨fun h => ?_, fun h => ⟨hok.of z, fun k hk => ?_⟩⟩
  · refine Int.emod_eq_zero_of_dvd (prod_dvd (hok.cops hp) fun x hx => ?_)
    obtain ⟨k, hk, rfl⟩ := List.getElem_of_mem hx
    have h1 := h.2 k (by rw [resOf_len]; exact hk)
    rw [resOf_get hk, List.getD_eq_getElem?_getD, List.getElem?_eq_getElem hk] at h1
    have h0 := ((okR_iff.1 hok).1 k hk).1
    rw [List.getD_eq_getElem?_getD, List.getElem?_eq_getElem hk] at h0
    have h0 : (L[k]).2 < (L[k]).1 := h0
    have h1 : y % ((L[k]).1 : Int) = ((z % ((L[k]).1 : Int)).toNat : Int) := h1
    rw [(mod_toNat (by omega)).1] at h1
    exact Int.dvd_of_emod_eq_zero (Int.emod_eq_emod_iff_emod_sub_eq_zero.1 h1.symm)
  · rw [resOf_len] at hk
    rw [resOf_get hk]
    have h0 := ((okR_iff.1 hok).1 k hk).1
    show y % (((L.getD k (0, 0)).1 : Nat) : Int) = ((z % ((L.getD k (0, 0)).1 : Int)).toNat : Int)
    rw [(mod_toNat (by omega)).1]
    have h2 : (((L.getD k (0, 0)).1 : Nat) : Int) ∣ z - y := Int.dvd_trans (Int.natCast_dvd_natCast.2 (prodP_dvd (getD_mem hk))) (Int.dvd_of_emod_eq_zero h)
    exact (Int.emod_eq_emod_iff_emod_sub_eq_zero.2 (Int.emod_eq_zero_of_dvd h2)).symm
/-- The number in the middle of the range. -/
def midZ (z M : Int) : Int := if M < z % M + z % M then z % M - M else z % M
theorem Cmb.mid {L : List (Nat × Nat)} {z c : Int} (h : Cmb (resOf L z) c) (hok : OkR L) (hp : PrL L) : c = midZ z ((prodP L : Nat) : Int) := by
  have hr := h.rg
  rw [resOf_prod] at hr
  have hM : (0 : Int) < ((prodP L : Nat) : Int) := by omega
  have h1 := Int.emod_nonneg z (show ((prodP L : Nat) : Int) ≠ 0 by omega)
  have h2 := Int.emod_lt_of_pos z hM
  have hd : ((prodP L : Nat) : Int) ∣ z - c := Int.dvd_of_emod_eq_zero ((cons_of hok hp z c).1 (h.cons (hok.of z)))
  have hd2 : ((prodP L : Nat) : Int) ∣ z - z % ((prodP L : Nat) : Int) := Int.dvd_self_sub_emod
  have hd3 := Int.dvd_sub hd2 hd
  rw [show z - z % ((prodP L : Nat) : Int) - (z - c) = c - z % ((prodP L : Nat) : Int) by omega] at hd3
  unfold midZ
  split
  · refine range_uniq ?_ hr (by omega)
    have := Int.dvd_add hd3 (Int.dvd_refl ((prodP L : Nat) : Int))
    rwa [show c - z % ((prodP L : Nat) : Int) + ((prodP L : Nat) : Int) = c - (z % ((prodP L : Nat) : Int) - ((prodP L : Nat) : Int)) by omega] at this
  · exact range_uniq hd3 hr (by omega)
theorem rsmall_v (neg : Bool) (A : Option Addr) (n c v : Nat) {z : Int} (w : World) (ha : IsInt w neg A n c z) (hv : (v : Int) = z) (hl : v < 4294967296) :
    Calls Tryd.prog 55 #[.agg #[.bool neg, .slice A n c]] w fun e w' => e = .returned (.tuple #[.int .i64 (v : Int), .bool true]) ∧ Below w.heap.size w w' := by
  subst hv
  exact rsmall_z neg A n c v w ha (by omega) (by omega)
set_option maxRecDepth 100000 in
set_option maxHeartbeats 4000000 in
theorem rof4_z (A : Option Addr) (n c : Nat) (L : List (Nat × Nat)) (ga : Bool) (Aa : Option Addr) (na ca : Nat) {k0 : Nat} {z : Int} (w : World) (h : ResL w A n L) (ha : IsInt w ga Aa na ca z) (hn : n ≤ 900) (hp : PrL L) (hok : OkR L) (sa : Sz k0 z) (hk0 : k0 ≤ 9000) :
    Calls Tryd.prog 24 #[.slice A n c, .agg #[.bool ga, .slice Aa na ca]] w (fun e w' => ∃ g c', e = .returned (.slice (some ⟨g, 0, none⟩) n c') ∧ OwnR w' w.heap.size (.slice (some ⟨g, 0, none⟩) n c') n (resOf L z) ∧ Below w.heap.size w w') := by
  have a0 := (Below.refl w.heap.size w).alloc (Nat.le_refl _) (.cells #[.bool ga, .slice Aa na ca] 28)
  have X0 := (Slot2.new w (.bool ga) (.slice Aa na ca) 28).alloc (.cells #[] 41)
  have B0 := a0.alloc a0.size (.cells #[] 41)
  have I0 := ha.below B0
  have T0 := OwnR.empty (w.alloc (.cells #[.bool ga, .slice Aa na ca] 28)) (w.heap.size + 1) (by simp)
  rw [World.size_alloc] at T0
  have hlen := h.len
  have H0 := Lib.hid h
  have HI := Lib.hid ha
  have HPL := Lib.hid hp.lt
  have HOK := Lib.hid hok
  clear h ha a0 hp hok
  go_enter Tryd.func24, Tryd.ntmps24
  go_wp2_with fail
  go_loopw [5, 6] (fun s5 s6 wr => ∃ k gt ct : Nat, s5 = .slice (some ⟨gt, 0, none⟩) k ct ∧ s6 = .int .i64 (k : Int) ∧ k ≤ n ∧ OwnR wr (w.heap.size + 1) (.slice (some ⟨gt, 0, none⟩) k ct) k (resOf (L.take k) z) ∧ Slot2 wr w.heap.size (.bool ga) (.slice Aa na ca) ∧ IsInt wr ga Aa na ca z ∧ Below w.heap.size w wr) (fun _ s6 _ => n - (intOf s6).toNat)
  case atStart => exact ⟨0, w.heap.size + 1, 0, rfl, rfl, Nat.zero_le _, T0, X0, I0, B0⟩
  case round =>
    clear T0 X0 I0 B0
    obtain ⟨k, gt, ct, rfl, rfl, hk, T, X, I, B⟩ := hrel
    rcases Nat.lt_or_ge k n with hkn | hkn
    · have hkl : k < L.length := by rw [hlen]; exact hkn
      obtain ⟨b, q, hA, hb, hc⟩ := H0.out.rd (by omega)
      obtain ⟨c0, _⟩ := hc k hkn
      obtain ⟨p, hp⟩ : ∃ p, (L.getD k (0, 0)).1 = p := ⟨_, rfl⟩
      have hpl := HPL.out _ (getD_mem hkl)
      have hpo := ((okR_iff.1 HOK.out).1 k hkl).1
      rw [hp] at c0 hpl hpo
      obtain ⟨v, hv⟩ : ∃ v, (z % (p : Int)).toNat = v := ⟨_, rfl⟩
      have hmt := mod_toNat (z := z) (p := p) (by omega)
      rw [hv] at hmt
      have HTn : Hid (resOf (L.take (k + 1)) z = resOf (L.take k) z ++ [(p, v)]) := by
        show _ = _
        rw [resOf_take hkl, hp, hv]
      have hvp := hmt.2
      have HMT := Lib.hid hmt.1
      clear hc hp hv hmt hpo
      subst hA
      have hp0 : (p : Int) ≠ 0 := by omega
      have hgt := (World.ownsRow.lt T gt rfl).1
      have hBs := B.size
      go_upto_region 5 with (fail)
      have HS : Hid (∀ V, Below wr.heap.size wr V → V.cell? ⟨b, q + k * 2, none⟩ = some (.int .u64 (p : Int)) ∧ (V.cell? ⟨w.heap.size, 0, none⟩ = some (.bool ga) ∧ V.cell? ⟨w.heap.size, 1, none⟩ = some (.slice Aa na ca))) := fun V hV => by
        have hB := B.trans (hV.mono B.size)
        exact ⟨(hB.cell (p := ⟨b, q + k * 2, none⟩) hb).trans c0, (X.after hV).1, (X.after hV).2.1⟩
      have Dr0 : Below wr.heap.size wr wr.drew := (Below.refl _ _).drew
      refine wp_region_seq (.pre [(0, true), (1, true), (2, true), (3, true), (4, true), (5, true), (6, false), (7, false), (8, false), (9, true), (10, true), (11, true), (12, true), (13, true)] .done) (fun W => W.cell? ⟨b, q + k * 2, none⟩ = some (.int .u64 (p : Int)) ∧ (W.cell? ⟨w.heap.size, 0, none⟩ = some (.bool ga) ∧ W.cell? ⟨w.heap.size, 1, none⟩ = some (.slice Aa na ca))) (by kernel_rfl) (by kernel_rfl) ?_ (by kernel_rfl) (HS.out _ Dr0) ?_
      · refine chk_pre _ _ _ (by as_aux_lemma => kernel_rfl) ?_
        exact (by as_aux_lemma => kernel_rfl)
      refine seq_take _ ?_ rfl (Or.inl ⟨by rfl, ?_⟩) ?_
      rotate_left
      · (intro w hSw; (try dsimp only at hSw); go_simp; (try with_reducible rfl))
      try simp only [Act.put, List.setIfInBounds_toArray, List.set_cons_zero, List.set_cons_succ]
      refine seq_take _ ?_ rfl (Or.inl ⟨by rfl, ?_⟩) ?_
      rotate_left
      · (intro w hSw; (try dsimp only at hSw); go_simp; (try with_reducible rfl))
      try simp only [Act.put, List.setIfInBounds_toArray, List.set_cons_zero, List.set_cons_succ]
      refine seq_take _ ?_ rfl (Or.inl ⟨by rfl, ?_⟩) ?_
      rotate_left
      · (intro w hSw; (try dsimp only at hSw); go_simp; (try with_reducible rfl))
      try simp only [Act.put, List.setIfInBounds_toArray, List.set_cons_zero, List.set_cons_succ]
      refine seq_take _ ?_ rfl (Or.inl ⟨by rfl, ?_⟩) ?_
      rotate_left
      · (intro w hSw; (try dsimp only at hSw); go_simp; (try with_reducible rfl))
      try simp only [Act.put, List.setIfInBounds_toArray, List.set_cons_zero, List.set_cons_succ]
      refine seq_take _ ?_ rfl (Or.inl ⟨by rfl, ?_⟩) ?_
      rotate_left
      · (intro w hSw; (try dsimp only at hSw); go_simp; (try with_reducible rfl))
      try simp only [Act.put, List.setIfInBounds_toArray, List.set_cons_zero, List.set_cons_succ]
      refine seq_take _ ?_ rfl (Or.inl ⟨by rfl, ?_⟩) ?_
      rotate_left
      · (intro w hSw; (try dsimp only at hSw); go_simp; (try with_reducible rfl))
      try simp only [Act.put, List.setIfInBounds_toArray, List.set_cons_zero, List.set_cons_succ]
      refine seq_one _ rfl fun K hK => ?_
      go_simp
      (with_reducible refine (whole_z p _ (by omega)).mono ?_)
      rintro e vr1 ⟨gr1, Ar1, nr1, cr1, rfl, ir1, br1⟩
      have Dr1 : Below wr.heap.size wr vr1 := Below.trans Dr0 (br1.mono (Below.size Dr0))
      go_wp2_with fail
      refine hK.out _ _ (HS.out _ Dr1) (fun hHeld => ?_)
      clear hK K hHeld
      try simp only [Act.put, List.setIfInBounds_toArray, List.set_cons_zero, List.set_cons_succ]
      refine seq_one _ rfl fun K hK => ?_
      go_simp
      (with_reducible refine (rest_z ga Aa na ca gr1 Ar1 nr1 cr1 _ (I.below Dr1) ir1 sa (Sz.of (by rw [Int.natAbs_natCast]; omega) (by decide) : Sz 1 (p : Int)) (by omega) hp0).mono ?_)
      rintro e vr2 ⟨gr2, Ar2, nr2, cr2, rfl, ir2, br2⟩
      have Dr2 : Below wr.heap.size wr vr2 := Below.trans Dr1 (br2.mono (Below.size Dr1))
      go_wp2_with fail
      refine hK.out _ _ (HS.out _ Dr2) (fun hHeld => ?_)
      clear hK K hHeld
      try simp only [Act.put, List.setIfInBounds_toArray, List.set_cons_zero, List.set_cons_succ]
      refine seq_one _ rfl fun K hK => ?_
      go_simp
      (with_reducible refine (rsmall_v gr2 Ar2 nr2 cr2 v _ ir2 HMT.out (by omega)).mono ?_)
      rintro e vr3 ⟨rfl, br3⟩
      have Dr3 : Below wr.heap.size wr vr3 := Below.trans Dr2 (br3.mono (Below.size Dr2))
      go_wp2_with fail
      refine hK.out _ _ (HS.out _ Dr3) (fun hHeld => ?_)
      clear hK K hHeld
      try simp only [Act.put, List.setIfInBounds_toArray, List.set_cons_zero, List.set_cons_succ]
      refine seq_take _ ?_ rfl (Or.inl ⟨by rfl, ?_⟩) ?_
      rotate_left
      · (intro w hSw; (try dsimp only at hSw); go_simp; (try with_reducible rfl))
      try simp only [Act.put, List.setIfInBounds_toArray, List.set_cons_zero, List.set_cons_succ]
      refine seq_take _ ?_ rfl (Or.inl ⟨by rfl, ?_⟩) ?_
      rotate_left
      · (intro w hSw; (try dsimp only at hSw); go_simp; (try with_reducible rfl))
      try simp only [Act.put, List.setIfInBounds_toArray, List.set_cons_zero, List.set_cons_succ]
      refine seq_take _ ?_ rfl (Or.inl ⟨by rfl, ?_⟩) ?_
      rotate_left
      · (intro w hSw; (try dsimp only at hSw); go_simp; (try with_reducible rfl))
      try simp only [Act.put, List.setIfInBounds_toArray, List.set_cons_zero, List.set_cons_succ]
      refine seq_take _ ?_ rfl (Or.inl ⟨by rfl, ?_⟩) ?_
      rotate_left
      · (intro w hSw; (try dsimp only at hSw); go_simp; (try with_reducible rfl))
      try simp only [Act.put, List.setIfInBounds_toArray, List.set_cons_zero, List.set_cons_succ]
      refine seq_take _ ?_ rfl (Or.inl ⟨by rfl, ?_⟩) ?_
      rotate_left
      · (intro w hSw; (try dsimp only at hSw); go_simp; (try with_reducible rfl))
      try simp only [Act.put, List.setIfInBounds_toArray, List.set_cons_zero, List.set_cons_succ]
      refine NoPanic.normal ?_
      replace T := T.keep Dr3
      replace X := X.after Dr3
      replace I := I.below Dr3
      replace B := B.trans (Dr3.mono B.size)
      have hs3 := Dr3.size
      generalize vr3 = W5 at *
      have c0' := (B.cell (p := ⟨b, q + k * 2, none⟩) hb).trans c0
      have hwv : IntKind.u64.wrap (v : Int) = (v : Int) := by rw [IntKind.wrap_u64]; omega
      clear Dr0 Dr1 Dr2 Dr3 br1 br2 br3 ir1 ir2 HS
      go_wp2_with (at_builtin; refine wpList_append_r _ rfl (.tmp 28) (.tmp 37) rfl (w.heap.size + 1) gt k ct (resOf (L.take k) z) rfl (T.keep ((Below.refl _ _).alloc (Nat.le_refl _) _)) W5.heap.size W5.heap.size 1 1 [(p, v)] rfl (OwnR.one W5 W5.heap.size p v (Nat.le_refl _)) (by omega) (by have := X.2.2.2.2; simp; omega) ?_; intro g3 c3 w7 O7 hg7)
      have a7 := (Below.refl W5.heap.size W5).alloc (Nat.le_refl _) (.cells #[.int .u64 (p : Int), .int .u64 (v : Int)] 41)
      have X7 := (X.after a7).grown hg7 (by simp; omega)
      have B7 := (B.trans (a7.mono B.size)).grown hg7 (by simp; omega) (fun j hj => by cases hj; omega)
      have I7 := HI.out.below B7
      clear X I B a7 T
      go_roundw
      case rel => exact ⟨k + 1, g3, c3, rfl, by go_num, by omega, by rw [HTn.out]; exact O7, X7, I7, B7⟩
      case measure => simp [intOf]; omega
    · obtain rfl : k = n := by omega
      rw [List.take_of_length_le (by omega)] at T
      go_wp2_with fail
      go_ret
      exact ⟨gt, ct, rfl, T.mono (by omega), B⟩
end Go.Proofs.YtclmenpclkmfeaaDoor
