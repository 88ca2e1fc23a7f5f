/- Contracts of torsionref04.Product, Valid and Consistent at lists of primes. -/
import Derived.Test.YtclmenpclkmfeaaDoorVRPrime
import Derived.Test.YtclmenpclkmfeaaDoorVRWhole
import Derived.Test.YtclmenpclkmfeaaDoorVG19Est
import Derived.Test.YtclmenpclkmfeaaDoorVCrtRest
import Derived.Test.YtclmenpclkmfeaaDoorVG5MadeL
import Derived.Deep.DeepCutAuto
namespace Go.Proofs.YtclmenpclkmfeaaDoor
open Go.RowKit Go.Maps
/-- A list of primes below 2^31. -/
def PrL (L : List (Nat × Nat)) : Prop := ∀ x ∈ L, IsPrime x.1 ∧ primeF x.1 = true
theorem PrL.lt {L : List (Nat × Nat)} (h : PrL L) : ∀ x ∈ L, x.1 < 2147483648 := fun x hx => (primeF_lt (h x hx).2).1
theorem prodP_take {L : List (Nat × Nat)} {k : Nat} (hk : k < L.length) : prodP (L.take (k + 1)) = prodP (L.take k) * (L.getD k (0, 0)).1 := by
  rw [List.take_add_one, List.getElem?_eq_getElem hk, prodP_app, List.getD_eq_getElem?_getD, List.getElem?_eq_getElem hk]
  simp [prodP]
theorem prodP_sz {L : List (Nat × Nat)} (h : ∀ x ∈ L, x.1 < 2147483648) {k : Nat} (hk : k ≤ L.length) (hl : L.length ≤ 1000) : Sz (k + 1) ((prodP (L.take k) : Nat) : Int) := by
  have h1 := prodP_le (l := L.take k) (fun x hx => by have := h x (List.mem_of_mem_take hx); omega)
  rw [List.length_take, show min k L.length = k by omega] at h1
  refine Sz.of ?_ (by omega)
  rw [Int.natAbs_natCast]
  exact Nat.lt_of_le_of_lt h1 (Nat.pow_lt_pow_right (by decide) (by omega))
set_option maxRecDepth 100000 in
set_option maxHeartbeats 4000000 in
theorem rprod_z (A : Option Addr) (n c : Nat) (L : List (Nat × Nat)) (w : World) (h : ResL w A n L) (hn : n ≤ 1000) (hp : PrL L) :
    Calls Tryd.prog 14 #[.slice A n c] w (RetInt w ((prodP L : Nat) : Int)) := by
  have B0 := (Below.refl w.heap.size w).alloc (Nat.le_refl _) (.cells #[.bool false, .slice none 0 0] 28)
  have R0 := Slot2.new w (.bool false) (.slice none 0 0) 28
  have hlen := h.len
  have H0 := Lib.hid h
  have HPL := Lib.hid hp.lt
  clear h hp
  go_enter Tryd.func14, Tryd.ntmps14
  generalize hW : w.alloc (.cells #[.bool false, .slice none 0 0] 28) = W0 at *
  go_wp2_with fail
  try rw [hW]
  clear hW
  (with_reducible refine (rof_any 1 _ (by decide) (by decide)).mono ?_)
  rintro e w1 ⟨g1, A1, n1, c1, rfl, i1, b1⟩
  have a1 := (Below.refl w1.heap.size w1).alloc (Nat.le_refl _) (.cells #[.bool g1, .slice A1 n1 c1] 28)
  have X := IntAt.new i1
  have hgx0 : w.heap.size < w1.heap.size := (R0.after b1).2.2.2.2
  replace b1 := b1.trans (a1.mono b1.size)
  replace R0 := R0.after b1
  replace B0 := B0.trans (b1.mono B0.size)
  clear b1 a1 i1
  obtain ⟨gx, hgx⟩ : ∃ gx, gx = w1.heap.size := ⟨_, rfl⟩
  rw [← hgx] at hgx0
  go_upto_region 2 with (fail)
  generalize hW : w1.alloc (.cells #[.bool g1, .slice A1 n1 c1] 28) = W1 at *
  rw [← hgx] at X ⊢
  clear hW hgx
  go_wp2_with fail
  go_loopw [4] (fun s4 wr => ∃ k : Nat, k ≤ n ∧ s4 = .int .i64 (k : Int) ∧ IntAt wr gx ((prodP (L.take k) : Nat) : Int) ∧ Slot2 wr w.heap.size (.bool false) (.slice none 0 0) ∧ Below w.heap.size w wr) (fun s4 _ => n - (intOf s4).toNat)
  case atStart => exact ⟨0, Nat.zero_le _, rfl, X, R0, B0⟩
  case round =>
    clear X R0 B0
    obtain ⟨k, hk, rfl, X, R0, B0⟩ := hrel
    obtain ⟨ga, Aa, na, ca, X, J⟩ := X
    rcases Nat.lt_or_ge k n with hkn | hkn
    · have hkl : k < L.length := by rw [hlen]; exact hkn
      obtain ⟨b, q, hA, hb, hc⟩ := H0.out.rd (by omega)
      obtain ⟨p, hp⟩ : ∃ p, (L.getD k (0, 0)).1 = p := ⟨_, rfl⟩
      have hpl : p < 2147483648 := by rw [← hp]; exact HPL.out _ (getD_mem hkl)
      have c0 := (hc k hkn).1
      rw [hp] at c0
      have Sa := prodP_sz HPL.out (Nat.le_of_lt hkl) (by omega)
      have Sp : Sz 1 (p : Int) := Sz.of (by rw [Int.natAbs_natCast]; omega) (by decide)
      have HN : Hid (((prodP (L.take (k + 1)) : Nat) : Int) = ((prodP (L.take k) : Nat) : Int) * (p : Int)) := by
        show _ = _
        rw [prodP_take hkl, hp, Int.natCast_mul]
      obtain ⟨m, hm⟩ : ∃ m, ((prodP (L.take k) : Nat) : Int) = m := ⟨_, rfl⟩
      have hn1 : n - 1 + 1 = n := by omega
      rw [hm] at Sa J HN
      clear hm hc hp
      subst hA
      have HX : Hid (∀ V, Below w.heap.size w V → V.cell? ⟨b, q + k * 2, none⟩ = some (.int .u64 (p : Int))) := fun V hV => (hV.cell (p := ⟨b, q + k * 2, none⟩) hb).trans c0
      go_upto_region 5 with (fail)
      refine wp_region_ev (fun d a0 a' w' => ∃ u12 u13 u14 u15 u16 u17 u18 u19 : Value, a' = ((((((((a0.put (some 12) u12).put (some 13) u13).put (some 14) u14).put (some 15) u15).put (some 16) u16).put (some 17) u17).put (some 18) u18).put (some 19) u19) ∧ Below w.heap.size w w' ∧ (d 0 = true → IntV w' u12 (m)) ∧ (d 1 = true → u13 = .slice (some ⟨b, q, none⟩) n c) ∧ (d 2 = true → u14 = .int .i64 (k : Int)) ∧ (d 3 = true → u15 = .pointer (some ⟨b, q + k * 2, none⟩)) ∧ (d 4 = true → u16 = .pointer (some ⟨b, q + k * 2, none⟩)) ∧ (d 5 = true → u17 = .int .u64 (p : Int)) ∧ (d 6 = true → IntV w' u18 ((p : Int))) ∧ (d 7 = true → IntV w' u19 (m * p)) ∧ (BlkI w' (gx) ga Aa na ca (m) (d 8) (m * p)) ∧ (BlkF w' (w.heap.size) (.bool false) (.slice none 0 0) false (0)) ∧ (d 8 = true → d 0 = true)) (by kernel_rfl) (by kernel_rfl) ?_ ?_ ?_ ?_
      · intro d d' h a' w' hh
        obtain rfl : d = d' := funext h
        exact hh
      · exact ⟨_, _, _, _, _, _, _, _, (by simp only [Act.put, List.setIfInBounds_toArray, List.set_cons_zero, List.set_cons_succ]; rfl), Below.drew (B0), (fun h => by cases h), (fun h => by cases h), (fun h => by cases h), (fun h => by cases h), (fun h => by cases h), (fun h => by cases h), (fun h => by cases h), (fun h => by cases h), (BlkI.start X J), (BlkF.start (Slot2.drew R0)), (fun h => by cases h)⟩
      · refine ⟨?_, ?_, ?_, ?_, ?_, ?_, ?_, ?_, ?_, trivial⟩
        · intro d a2 w2 hd hm ⟨u12, u13, u14, u15, u16, u17, u18, u19, e, HB, f0, f1, f2, f3, f4, f5, f6, f7, kX, kR, o8_0⟩ K hK
          subst e
          simp only [Act.put, List.setIfInBounds_toArray, List.set_cons_zero, List.set_cons_succ]
          have hs : d 8 = false := by cases hq : d 8 with | false => rfl | true => (have hz := o8_0 hq; rw [hd] at hz; cases hz)
          have ⟨⟨y0, y1, _, _, _⟩, iL⟩ := kX.1 hs
          clear hs
          go_simp
          exact hK.out _ _ ⟨.agg #[.bool ga, .slice Aa na ca], u13, u14, u15, u16, u17, u18, u19, (by simp only [Act.put, List.setIfInBounds_toArray, List.set_cons_zero, List.set_cons_succ]), HB, (fun _ => ⟨_, _, _, _, rfl, iL⟩), (fun h => f1 (by simpa using h)), (fun h => f2 (by simpa using h)), (fun h => f3 (by simpa using h)), (fun h => f4 (by simpa using h)), (fun h => f5 (by simpa using h)), (fun h => (f6 (by simpa using h))), (fun h => (f7 (by simpa using h))), (by simpa using (kX)), (by simpa using (kR)), (fun _ => by simp)⟩
        · intro d a2 w2 hd hm ⟨u12, u13, u14, u15, u16, u17, u18, u19, e, HB, f0, f1, f2, f3, f4, f5, f6, f7, kX, kR, o8_0⟩ K hK
          subst e
          simp only [Act.put, List.setIfInBounds_toArray, List.set_cons_zero, List.set_cons_succ]
          go_simp
          exact hK.out _ _ ⟨u12, .slice (some ⟨b, q, none⟩) n c, u14, u15, u16, u17, u18, u19, (by simp only [Act.put, List.setIfInBounds_toArray, List.set_cons_zero, List.set_cons_succ]), HB, (fun h => (f0 (by simpa using h))), (fun _ => rfl), (fun h => f2 (by simpa using h)), (fun h => f3 (by simpa using h)), (fun h => f4 (by simpa using h)), (fun h => f5 (by simpa using h)), (fun h => (f6 (by simpa using h))), (fun h => (f7 (by simpa using h))), (by simpa using (kX)), (by simpa using (kR)), (fun h => by simpa using o8_0 (by simpa using h))⟩
        · intro d a2 w2 hd hm ⟨u12, u13, u14, u15, u16, u17, u18, u19, e, HB, f0, f1, f2, f3, f4, f5, f6, f7, kX, kR, o8_0⟩ K hK
          subst e
          simp only [Act.put, List.setIfInBounds_toArray, List.set_cons_zero, List.set_cons_succ]
          go_simp
          exact hK.out _ _ ⟨u12, u13, .int .i64 (k : Int), u15, u16, u17, u18, u19, (by simp only [Act.put, List.setIfInBounds_toArray, List.set_cons_zero, List.set_cons_succ]), HB, (fun h => (f0 (by simpa using h))), (fun h => f1 (by simpa using h)), (fun _ => rfl), (fun h => f3 (by simpa using h)), (fun h => f4 (by simpa using h)), (fun h => f5 (by simpa using h)), (fun h => (f6 (by simpa using h))), (fun h => (f7 (by simpa using h))), (by simpa using (kX)), (by simpa using (kR)), (fun h => by simpa using o8_0 (by simpa using h))⟩
        · intro d a2 w2 hd hm ⟨u12, u13, u14, u15, u16, u17, u18, u19, e, HB, f0, f1, f2, f3, f4, f5, f6, f7, kX, kR, o8_0⟩ K hK
          subst e
          simp only [Act.put, List.setIfInBounds_toArray, List.set_cons_zero, List.set_cons_succ]
          obtain rfl := f1 (hm ⟨1, .data⟩ (by simp) rfl)
          clear f1
          obtain rfl := f2 (hm ⟨2, .data⟩ (by simp) rfl)
          clear f2
          go_simp
          exact hK.out _ _ ⟨u12, .slice (some ⟨b, q, none⟩) n c, .int .i64 (k : Int), .pointer (some ⟨b, q + k * 2, none⟩), u16, u17, u18, u19, (by simp only [Act.put, List.setIfInBounds_toArray, List.set_cons_zero, List.set_cons_succ]), HB, (fun h => (f0 (by simpa using h))), (fun _ => rfl), (fun _ => rfl), (fun _ => rfl), (fun h => f4 (by simpa using h)), (fun h => f5 (by simpa using h)), (fun h => (f6 (by simpa using h))), (fun h => (f7 (by simpa using h))), (by simpa using (kX)), (by simpa using (kR)), (fun h => by simpa using o8_0 (by simpa using h))⟩
        · intro d a2 w2 hd hm ⟨u12, u13, u14, u15, u16, u17, u18, u19, e, HB, f0, f1, f2, f3, f4, f5, f6, f7, kX, kR, o8_0⟩ K hK
          subst e
          simp only [Act.put, List.setIfInBounds_toArray, List.set_cons_zero, List.set_cons_succ]
          obtain rfl := f3 (hm ⟨3, .data⟩ (by simp) rfl)
          clear f3
          go_simp
          exact hK.out _ _ ⟨u12, u13, u14, .pointer (some ⟨b, q + k * 2, none⟩), .pointer (some ⟨b, q + k * 2, none⟩), u17, u18, u19, (by simp only [Act.put, List.setIfInBounds_toArray, List.set_cons_zero, List.set_cons_succ]), HB, (fun h => (f0 (by simpa using h))), (fun h => f1 (by simpa using h)), (fun h => f2 (by simpa using h)), (fun _ => rfl), (fun _ => rfl), (fun h => f5 (by simpa using h)), (fun h => (f6 (by simpa using h))), (fun h => (f7 (by simpa using h))), (by simpa using (kX)), (by simpa using (kR)), (fun h => by simpa using o8_0 (by simpa using h))⟩
        · intro d a2 w2 hd hm ⟨u12, u13, u14, u15, u16, u17, u18, u19, e, HB, f0, f1, f2, f3, f4, f5, f6, f7, kX, kR, o8_0⟩ K hK
          subst e
          simp only [Act.put, List.setIfInBounds_toArray, List.set_cons_zero, List.set_cons_succ]
          obtain rfl := f4 (hm ⟨4, .data⟩ (by simp) rfl)
          clear f4
          have hxf := HX.out w2 HB
          go_simp
          exact hK.out _ _ ⟨u12, u13, u14, u15, .pointer (some ⟨b, q + k * 2, none⟩), .int .u64 (p : Int), u18, u19, (by simp only [Act.put, List.setIfInBounds_toArray, List.set_cons_zero, List.set_cons_succ]), HB, (fun h => (f0 (by simpa using h))), (fun h => f1 (by simpa using h)), (fun h => f2 (by simpa using h)), (fun h => f3 (by simpa using h)), (fun _ => rfl), (fun _ => rfl), (fun h => (f6 (by simpa using h))), (fun h => (f7 (by simpa using h))), (by simpa using (kX)), (by simpa using (kR)), (fun h => by simpa using o8_0 (by simpa using h))⟩
        · intro d a2 w2 hd hm ⟨u12, u13, u14, u15, u16, u17, u18, u19, e, HB, f0, f1, f2, f3, f4, f5, f6, f7, kX, kR, o8_0⟩ K hK
          subst e
          simp only [Act.put, List.setIfInBounds_toArray, List.set_cons_zero, List.set_cons_succ]
          obtain rfl := f5 (hm ⟨5, .data⟩ (by simp) rfl)
          clear f5
          go_simp
          (with_reducible refine (whole_z p _ (by omega)).mono ?_)
          rintro e w3 ⟨gg, AA, nn, cc, rfl, hi, hb⟩
          have HB3 := HB.trans (hb.mono HB.size)
          go_wp2_with fail
          exact hK.out _ _ ⟨u12, u13, u14, u15, u16, .int .u64 (p : Int), .agg #[.bool gg, .slice AA nn cc], u19, (by simp only [Act.put, List.setIfInBounds_toArray, List.set_cons_zero, List.set_cons_succ]), HB3, (fun h => (f0 (by simpa using h)).below hb), (fun h => f1 (by simpa using h)), (fun h => f2 (by simpa using h)), (fun h => f3 (by simpa using h)), (fun h => f4 (by simpa using h)), (fun _ => rfl), (fun _ => ⟨_, _, _, _, rfl, hi⟩), (fun h => (f7 (by simpa using h)).below hb), (by simpa using (kX).below hb), (by simpa using (kR).below hb), (fun h => by simpa using o8_0 (by simpa using h))⟩
        · intro d a2 w2 hd hm ⟨u12, u13, u14, u15, u16, u17, u18, u19, e, HB, f0, f1, f2, f3, f4, f5, f6, f7, kX, kR, o8_0⟩ K hK
          subst e
          simp only [Act.put, List.setIfInBounds_toArray, List.set_cons_zero, List.set_cons_succ]
          obtain ⟨G0, A0, N0, C0, rfl, I0⟩ := f0 (hm ⟨0, .data⟩ (by simp) rfl)
          obtain ⟨G6, A6, N6, C6, rfl, I6⟩ := f6 (hm ⟨6, .data⟩ (by simp) rfl)
          go_simp
          (with_reducible refine (rmul_z G0 G6 A0 A6 N0 C0 N6 C6 _ I0 I6 Sa Sp).mono ?_)
          rintro e w3 ⟨gg, AA, nn, cc, rfl, hi, hb⟩
          have HB3 := HB.trans (hb.mono HB.size)
          go_wp2_with fail
          exact hK.out _ _ ⟨.agg #[.bool G0, .slice A0 N0 C0], u13, u14, u15, u16, u17, .agg #[.bool G6, .slice A6 N6 C6], .agg #[.bool gg, .slice AA nn cc], (by simp only [Act.put, List.setIfInBounds_toArray, List.set_cons_zero, List.set_cons_succ]), HB3, (fun h => (f0 (by simpa using h)).below hb), (fun h => f1 (by simpa using h)), (fun h => f2 (by simpa using h)), (fun h => f3 (by simpa using h)), (fun h => f4 (by simpa using h)), (fun h => f5 (by simpa using h)), (fun h => (f6 (by simpa using h)).below hb), (fun _ => ⟨_, _, _, _, rfl, hi⟩), (by simpa using (kX).below hb), (by simpa using (kR).below hb), (fun h => by simpa using o8_0 (by simpa using h))⟩
        · intro d a2 w2 hd hm ⟨u12, u13, u14, u15, u16, u17, u18, u19, e, HB, f0, f1, f2, f3, f4, f5, f6, f7, kX, kR, o8_0⟩ K hK
          subst e
          simp only [Act.put, List.setIfInBounds_toArray, List.set_cons_zero, List.set_cons_succ]
          obtain ⟨gg, AA, nn, cc, rfl, hi⟩ := f7 (hm ⟨7, .data⟩ (by simp) rfl)
          have hs := (kX.1 hd).1
          obtain ⟨k0, k1, k2, k3, k4⟩ := id hs
          go_simp
          exact hK.out _ _ ⟨u12, u13, u14, u15, u16, u17, u18, .agg #[.bool gg, .slice AA nn cc], (by simp only [Act.put, List.setIfInBounds_toArray, List.set_cons_zero, List.set_cons_succ]), Below.set2 HB (by omega) _ _, (fun h => (f0 (by simpa using h)).set2 hs rfl rfl _ _), (fun h => f1 (by simpa using h)), (fun h => f2 (by simpa using h)), (fun h => f3 (by simpa using h)), (fun h => f4 (by simpa using h)), (fun h => f5 (by simpa using h)), (fun h => (f6 (by simpa using h)).set2 hs rfl rfl _ _), (fun h => (f7 (by simpa using h)).set2 hs rfl rfl _ _), (by simpa using BlkI.near hi hs), (by simpa using (kR).far2 (by omega) hs rfl rfl _ _), (fun _ => by simpa using hm ⟨0, .phase⟩ (by simp) rfl)⟩
      · intro d a2 w2 hall ⟨u12, u13, u14, u15, u16, u17, u18, u19, e, HB, f0, f1, f2, f3, f4, f5, f6, f7, kX, kR, o8_0⟩
        subst e
        simp only [Act.put, List.setIfInBounds_toArray, List.set_cons_zero, List.set_cons_succ]
        obtain rfl := f1 (hall _ (by decide))
        obtain rfl := f2 (hall _ (by decide))
        obtain rfl := f3 (hall _ (by decide))
        obtain rfl := f4 (hall _ (by decide))
        obtain rfl := f5 (hall _ (by decide))
        have eX := kX.2 (hall _ (by decide))
        have eR := kR.1 rfl
        go_wp2_with fail
        go_roundw
        case rel => exact ⟨k + 1, by omega, by go_num, by rw [HN.out]; exact eX, eR, HB⟩
        case measure => simp [intOf]; omega
    · obtain rfl : k = n := by omega
      rw [List.take_of_length_le (by omega)] at J
      have ⟨x0, x1, _, _, _⟩ := X
      have ⟨r0, r1, r2, r3, _⟩ := R0
      go_wp2_with fail
      exact bodyPost_ret (v := .agg #[.bool ga, .slice Aa na ca]) (by simp [results, Tryd.results14, go_sem, r0, r1]) rfl ⟨_, _, _, _, rfl, J.set2 R0 rfl rfl _ _, Below.set2 B0 (Nat.le_refl _) _ _⟩
theorem any_take {L : List (Nat × Nat)} {i : Nat} (hi : i ≤ L.length) (p : Nat) : (L.take i).reverse.any (fun x => x.1 == p) = false ↔ ∀ j, j < i → (L.getD j (0, 0)).1 ≠ p := by
  rw [List.any_eq_false]
  refine ⟨fun h j hj e => ?_, fun h x hx e => ?_⟩
  · refine h (L.getD j (0, 0)) (List.mem_reverse.2 ?_) (by rw [beq_iff_eq]; exact e)
    rw [List.getD_eq_getElem?_getD, List.getElem?_eq_getElem (by omega)]
    exact List.mem_take_iff_getElem.2 ⟨j, by omega, rfl⟩
  · obtain ⟨j, hj, he⟩ := List.mem_take_iff_getElem.1 (List.mem_reverse.1 hx)
    refine h j (by omega) ?_
    rw [List.getD_eq_getElem?_getD, List.getElem?_eq_getElem (by omega)]
    show (L[j]'_).1 = p
    rw [he]
    exact beq_iff_eq.1 e
set_option maxRecDepth 100000 in
set_option maxHeartbeats 4000000 in
theorem rvalid4_z (A : Option Addr) (n c : Nat) (L : List (Nat × Nat)) (w : World) (h : ResL w A n L) (hn : n ≤ 1000) (hp : PrL L) :
    Calls Tryd.prog 40 #[.slice A n c] w (fun e w' => ∃ v, e = .returned (.bool v) ∧ Below w.heap.size w w' ∧ Hid (v = true ↔ OkR L)) := by
  have hlen := h.len
  have H0 := Lib.hid h
  have HPL := Lib.hid hp
  clear h hp
  go_enter Tryd.func40, Tryd.ntmps40
  go_wp2_with fail
  go_loopw [3] (fun s3 wr => ∃ k : Nat, k ≤ n ∧ s3 = .int .i64 (k : Int) ∧ Below w.heap.size w wr ∧ Hid (∀ i, i < k → OkAt L i)) (fun s3 _ => n - (intOf s3).toNat)
  case atStart => exact ⟨0, Nat.zero_le _, rfl, Below.refl _ _, fun i h => absurd h (by omega)⟩
  case round =>
    obtain ⟨k, hk, rfl, B0, hok⟩ := hrel
    rcases Nat.lt_or_ge k n with hkn | hkn
    · have hkl : k < L.length := by rw [hlen]; exact hkn
      obtain ⟨b, q, hA, hb, hc⟩ := H0.out.rd (by omega)
      obtain ⟨p, hp⟩ : ∃ p, (L.getD k (0, 0)).1 = p := ⟨_, rfl⟩
      obtain ⟨v, hv⟩ : ∃ v, (L.getD k (0, 0)).2 = v := ⟨_, rfl⟩
      have hpr := HPL.out _ (getD_mem hkl)
      rw [hp] at hpr
      have hpl := (primeF_lt hpr.2).1
      obtain ⟨c0, c1⟩ := hc k hkn
      rw [hp] at c0
      rw [hv] at c1
      have HPr := Lib.hid hpr
      have HP := Lib.hid hp
      have HV := Lib.hid hv
      have HC := Lib.hid hc
      clear hpr hp hv hc
      subst hA
      have hbl : decide ((2147483648 : Int) ≤ (p : Int)) = false := decide_eq_false (by omega)
      go_upto_region 4 with (fail)
      have HS : Hid (∀ V, Below wr.heap.size wr V → V.cell? ⟨b, q + k * 2, none⟩ = some (.int .u64 (p : Int)) ∧ V.cell? ⟨b, q + k * 2 + 1, none⟩ = some (.int .u64 (v : Int))) := fun V hV => by
        have hB := B0.trans (hV.mono B0.size)
        exact ⟨(hB.cell (p := ⟨b, q + k * 2, none⟩) hb).trans c0, (hB.cell (p := ⟨b, q + k * 2 + 1, none⟩) hb).trans c1⟩
      rcases Nat.lt_or_ge v p with hvp | hvp
      · have hge : decide (p ≤ v) = false := decide_eq_false (by omega)
        have Dr0 : Below wr.heap.size wr wr.drew := (Below.refl _ _).drew
        refine wp_region_seq (.pre [(0, true), (1, true), (2, true), (3, true), (4, true), (5, true), (6, true), (7, true), (8, true), (9, true), (10, true), (11, true), (12, false), (13, true), (14, true), (15, true), (16, true), (17, true), (18, true), (19, true), (20, true), (21, true), (22, true), (23, true), (24, true)] (.pre [(25, true), (26, true), (27, true)] .done)) (fun W => W.cell? ⟨b, q + k * 2, none⟩ = some (.int .u64 (p : Int)) ∧ W.cell? ⟨b, q + k * 2 + 1, none⟩ = some (.int .u64 (v : Int))) (by kernel_rfl) (by kernel_rfl) ?_ (by kernel_rfl) (HS.out _ Dr0) ?_
        · refine chk_pre _ _ _ (by as_aux_lemma => kernel_rfl) ?_
          refine chk_pre _ _ _ (by as_aux_lemma => kernel_rfl) ?_
          exact (by as_aux_lemma => kernel_rfl)
        refine seq_take _ ?_ rfl (Or.inl ⟨by rfl, ?_⟩) ?_
        rotate_left
        · (intro w hSw; (try dsimp only at hSw); go_simp; (try with_reducible rfl))
        try simp only [Act.put, List.setIfInBounds_toArray, List.set_cons_zero, List.set_cons_succ]
        refine seq_take _ ?_ rfl (Or.inl ⟨by rfl, ?_⟩) ?_
        rotate_left
        · (intro w hSw; (try dsimp only at hSw); go_simp; (try with_reducible rfl))
        try simp only [Act.put, List.setIfInBounds_toArray, List.set_cons_zero, List.set_cons_succ]
        refine seq_take _ ?_ rfl (Or.inl ⟨by rfl, ?_⟩) ?_
        rotate_left
        · (intro w hSw; (try dsimp only at hSw); go_simp; (try with_reducible rfl))
        try simp only [Act.put, List.setIfInBounds_toArray, List.set_cons_zero, List.set_cons_succ]
        refine seq_take _ ?_ rfl (Or.inl ⟨by rfl, ?_⟩) ?_
        rotate_left
        · (intro w hSw; (try dsimp only at hSw); go_simp; (try with_reducible rfl))
        try simp only [Act.put, List.setIfInBounds_toArray, List.set_cons_zero, List.set_cons_succ]
        refine seq_take _ ?_ rfl (Or.inl ⟨by rfl, ?_⟩) ?_
        rotate_left
        · (intro w hSw; (try dsimp only at hSw); go_simp; (try with_reducible rfl))
        try simp only [Act.put, List.setIfInBounds_toArray, List.set_cons_zero, List.set_cons_succ]
        refine seq_take _ ?_ rfl (Or.inl ⟨by rfl, ?_⟩) ?_
        rotate_left
        · (intro w hSw; (try dsimp only at hSw); go_simp; (try with_reducible rfl))
        try simp only [Act.put, List.setIfInBounds_toArray, List.set_cons_zero, List.set_cons_succ]
        refine seq_take _ ?_ rfl (Or.inl ⟨by rfl, ?_⟩) ?_
        rotate_left
        · (intro w hSw; (try dsimp only at hSw); go_simp; (try with_reducible rfl))
        try simp only [Act.put, List.setIfInBounds_toArray, List.set_cons_zero, List.set_cons_succ]
        refine seq_take _ ?_ rfl (Or.inl ⟨by rfl, ?_⟩) ?_
        rotate_left
        · (intro w hSw; (try dsimp only at hSw); go_simp; (try with_reducible rfl))
        try simp only [Act.put, List.setIfInBounds_toArray, List.set_cons_zero, List.set_cons_succ]
        refine seq_take _ ?_ rfl (Or.inl ⟨by rfl, ?_⟩) ?_
        rotate_left
        · (intro w hSw; (try dsimp only at hSw); go_simp; (try with_reducible rfl))
        try simp only [Act.put, List.setIfInBounds_toArray, List.set_cons_zero, List.set_cons_succ]
        refine seq_take _ ?_ rfl (Or.inl ⟨by rfl, ?_⟩) ?_
        rotate_left
        · (intro w hSw; (try dsimp only at hSw); go_simp; (try with_reducible rfl))
        try simp only [Act.put, List.setIfInBounds_toArray, List.set_cons_zero, List.set_cons_succ]
        refine seq_take _ ?_ rfl (Or.inl ⟨by rfl, ?_⟩) ?_
        rotate_left
        · (intro w hSw; (try dsimp only at hSw); go_simp; (try with_reducible rfl))
        try simp only [Act.put, List.setIfInBounds_toArray, List.set_cons_zero, List.set_cons_succ]
        refine seq_take _ ?_ rfl (Or.inl ⟨by rfl, ?_⟩) ?_
        rotate_left
        · (intro w hSw; (try dsimp only at hSw); go_simp; (try with_reducible rfl))
        try simp only [Act.put, List.setIfInBounds_toArray, List.set_cons_zero, List.set_cons_succ]
        refine seq_one _ rfl fun K hK => ?_
        go_simp
        (with_reducible refine (qprime_t p _ HPr.out.1 hpl).mono ?_)
        rintro e vr1 ⟨rfl, br1⟩
        have Dr1 : Below wr.heap.size wr vr1 := Below.trans Dr0 (br1.mono (Below.size Dr0))
        go_wp2_with fail
        refine hK.out _ _ (HS.out _ Dr1) (fun hHeld => ?_)
        clear hK K hHeld
        try simp only [Act.put, List.setIfInBounds_toArray, List.set_cons_zero, List.set_cons_succ]
        refine seq_take _ ?_ rfl (Or.inl ⟨by rfl, ?_⟩) ?_
        rotate_left
        · (intro w hSw; (try dsimp only at hSw); go_simp; (try with_reducible rfl))
        try simp only [Act.put, List.setIfInBounds_toArray, List.set_cons_zero, List.set_cons_succ]
        refine seq_take _ ?_ rfl (Or.inl ⟨by rfl, ?_⟩) ?_
        rotate_left
        · (intro w hSw; (try dsimp only at hSw); go_simp; (try with_reducible rfl))
        try simp only [Act.put, List.setIfInBounds_toArray, List.set_cons_zero, List.set_cons_succ]
        refine seq_take _ ?_ rfl (Or.inl ⟨by rfl, ?_⟩) ?_
        rotate_left
        · (intro w hSw; (try dsimp only at hSw); go_simp; (try with_reducible rfl))
        try simp only [Act.put, List.setIfInBounds_toArray, List.set_cons_zero, List.set_cons_succ]
        refine seq_take _ ?_ rfl (Or.inl ⟨by rfl, ?_⟩) ?_
        rotate_left
        · (intro w hSw; (try dsimp only at hSw); go_simp; (try with_reducible rfl))
        try simp only [Act.put, List.setIfInBounds_toArray, List.set_cons_zero, List.set_cons_succ]
        refine seq_take _ ?_ rfl (Or.inl ⟨by rfl, ?_⟩) ?_
        rotate_left
        · (intro w hSw; (try dsimp only at hSw); go_simp; (try with_reducible rfl))
        try simp only [Act.put, List.setIfInBounds_toArray, List.set_cons_zero, List.set_cons_succ]
        refine seq_take _ ?_ rfl (Or.inl ⟨by rfl, ?_⟩) ?_
        rotate_left
        · (intro w hSw; (try dsimp only at hSw); go_simp; (try with_reducible rfl))
        try simp only [Act.put, List.setIfInBounds_toArray, List.set_cons_zero, List.set_cons_succ]
        refine seq_take _ ?_ rfl (Or.inl ⟨by rfl, ?_⟩) ?_
        rotate_left
        · (intro w hSw; (try dsimp only at hSw); go_simp; (try with_reducible rfl))
        try simp only [Act.put, List.setIfInBounds_toArray, List.set_cons_zero, List.set_cons_succ]
        refine seq_take _ ?_ rfl (Or.inl ⟨by rfl, ?_⟩) ?_
        rotate_left
        · (intro w hSw; (try dsimp only at hSw); go_simp; (try with_reducible rfl))
        try simp only [Act.put, List.setIfInBounds_toArray, List.set_cons_zero, List.set_cons_succ]
        refine seq_take _ ?_ rfl (Or.inl ⟨by rfl, ?_⟩) ?_
        rotate_left
        · (intro w hSw; (try dsimp only at hSw); go_simp; (try with_reducible rfl))
        try simp only [Act.put, List.setIfInBounds_toArray, List.set_cons_zero, List.set_cons_succ]
        refine seq_take _ ?_ rfl (Or.inl ⟨by rfl, ?_⟩) ?_
        rotate_left
        · (intro w hSw; (try dsimp only at hSw); go_simp; (try with_reducible rfl))
        try simp only [Act.put, List.setIfInBounds_toArray, List.set_cons_zero, List.set_cons_succ]
        refine seq_take _ ?_ rfl (Or.inl ⟨by rfl, ?_⟩) ?_
        rotate_left
        · (intro w hSw; (try dsimp only at hSw); go_simp; (try with_reducible rfl))
        try simp only [Act.put, List.setIfInBounds_toArray, List.set_cons_zero, List.set_cons_succ]
        refine seq_take _ ?_ rfl (Or.inl ⟨by rfl, ?_⟩) ?_
        rotate_left
        · (intro w hSw; (try dsimp only at hSw); go_simp; (try with_reducible rfl))
        try simp only [Act.put, List.setIfInBounds_toArray, List.set_cons_zero, List.set_cons_succ]
        refine seq_take _ ?_ rfl (Or.inl ⟨by rfl, ?_⟩) ?_
        rotate_left
        · (intro w hSw; (try dsimp only at hSw); go_simp; (try with_reducible rfl))
        try simp only [Act.put, List.setIfInBounds_toArray, List.set_cons_zero, List.set_cons_succ]
        refine seq_take _ ?_ rfl (Or.inl ⟨by rfl, ?_⟩) ?_
        rotate_left
        · (intro w hSw; (try dsimp only at hSw); go_simp; (try with_reducible rfl))
        try simp only [Act.put, List.setIfInBounds_toArray, List.set_cons_zero, List.set_cons_succ]
        refine seq_take _ ?_ rfl (Or.inl ⟨by rfl, ?_⟩) ?_
        rotate_left
        · (intro w hSw; (try dsimp only at hSw); go_simp; (try with_reducible rfl))
        try simp only [Act.put, List.setIfInBounds_toArray, List.set_cons_zero, List.set_cons_succ]
        refine NoPanic.normal ?_
        replace B0 := B0.trans (Dr1.mono B0.size)
        clear Dr0 Dr1 br1 HS hge hbl
        go_wp2_with fail
        go_loopw [4] (fun s4 wx => ∃ j : Nat, j ≤ k ∧ s4 = .int .i64 (j : Int) ∧ Below w.heap.size w wx ∧ Hid (∀ i, i < j → (L.getD i (0, 0)).1 ≠ p)) (fun s4 _ => k - (intOf s4).toNat)
        case atStart => exact ⟨0, Nat.zero_le _, rfl, B0, fun i h => absurd h (by omega)⟩
        case round =>
          clear B0
          obtain ⟨j, hj, rfl, B0, hne⟩ := hrel
          rcases Nat.lt_or_ge j k with hjk | hjk
          · obtain ⟨u, hu⟩ : ∃ u, (L.getD j (0, 0)).1 = u := ⟨_, rfl⟩
            have hjn : j < n := by omega
            have d0 := (HC.out j hjn).1
            rw [hu] at d0
            have HU := Lib.hid hu
            clear hu
            go_upto_region 9 with (fail)
            have HS : Hid (∀ V, Below wr.heap.size wr V → V.cell? ⟨b, q + k * 2, none⟩ = some (.int .u64 (p : Int)) ∧ V.cell? ⟨b, q + j * 2, none⟩ = some (.int .u64 (u : Int))) := fun V hV => by
              have hB := B0.trans (hV.mono B0.size)
              exact ⟨(hB.cell (p := ⟨b, q + k * 2, none⟩) hb).trans c0, (hB.cell (p := ⟨b, q + j * 2, none⟩) hb).trans d0⟩
            by_cases hup : (u : Int) = (p : Int)
            · have he : ((u : Int) == (p : Int)) = true := by rw [hup]; simp
              have Ds0 : Below wr.heap.size wr wr.drew := (Below.refl _ _).drew
              refine wp_region_seq (.pre [(0, true), (1, true), (2, true), (3, true), (4, true), (5, true), (6, true), (7, true), (8, true), (9, true), (10, true)] .done) (fun W => W.cell? ⟨b, q + k * 2, none⟩ = some (.int .u64 (p : Int)) ∧ W.cell? ⟨b, q + j * 2, none⟩ = some (.int .u64 (u : Int))) (by kernel_rfl) (by kernel_rfl) ?_ (by kernel_rfl) (HS.out _ Ds0) ?_
              · refine chk_pre _ _ _ (by as_aux_lemma => kernel_rfl) ?_
                exact (by as_aux_lemma => kernel_rfl)
              refine seq_take _ ?_ rfl (Or.inl ⟨by rfl, ?_⟩) ?_
              rotate_left
              · (intro w hSw; (try dsimp only at hSw); go_simp; (try with_reducible rfl))
              try simp only [Act.put, List.setIfInBounds_toArray, List.set_cons_zero, List.set_cons_succ]
              refine seq_take _ ?_ rfl (Or.inl ⟨by rfl, ?_⟩) ?_
              rotate_left
              · (intro w hSw; (try dsimp only at hSw); go_simp; (try with_reducible rfl))
              try simp only [Act.put, List.setIfInBounds_toArray, List.set_cons_zero, List.set_cons_succ]
              refine seq_take _ ?_ rfl (Or.inl ⟨by rfl, ?_⟩) ?_
              rotate_left
              · (intro w hSw; (try dsimp only at hSw); go_simp; (try with_reducible rfl))
              try simp only [Act.put, List.setIfInBounds_toArray, List.set_cons_zero, List.set_cons_succ]
              refine seq_take _ ?_ rfl (Or.inl ⟨by rfl, ?_⟩) ?_
              rotate_left
              · (intro w hSw; (try dsimp only at hSw); go_simp; (try with_reducible rfl))
              try simp only [Act.put, List.setIfInBounds_toArray, List.set_cons_zero, List.set_cons_succ]
              refine seq_take _ ?_ rfl (Or.inl ⟨by rfl, ?_⟩) ?_
              rotate_left
              · (intro w hSw; (try dsimp only at hSw); go_simp; (try with_reducible rfl))
              try simp only [Act.put, List.setIfInBounds_toArray, List.set_cons_zero, List.set_cons_succ]
              refine seq_take _ ?_ rfl (Or.inl ⟨by rfl, ?_⟩) ?_
              rotate_left
              · (intro w hSw; (try dsimp only at hSw); go_simp; (try with_reducible rfl))
              try simp only [Act.put, List.setIfInBounds_toArray, List.set_cons_zero, List.set_cons_succ]
              refine seq_take _ ?_ rfl (Or.inl ⟨by rfl, ?_⟩) ?_
              rotate_left
              · (intro w hSw; (try dsimp only at hSw); go_simp; (try with_reducible rfl))
              try simp only [Act.put, List.setIfInBounds_toArray, List.set_cons_zero, List.set_cons_succ]
              refine seq_take _ ?_ rfl (Or.inl ⟨by rfl, ?_⟩) ?_
              rotate_left
              · (intro w hSw; (try dsimp only at hSw); go_simp; (try with_reducible rfl))
              try simp only [Act.put, List.setIfInBounds_toArray, List.set_cons_zero, List.set_cons_succ]
              refine seq_take _ ?_ rfl (Or.inl ⟨by rfl, ?_⟩) ?_
              rotate_left
              · (intro w hSw; (try dsimp only at hSw); go_simp; (try with_reducible rfl))
              try simp only [Act.put, List.setIfInBounds_toArray, List.set_cons_zero, List.set_cons_succ]
              refine seq_take _ ?_ rfl (Or.inl ⟨by rfl, ?_⟩) ?_
              rotate_left
              · (intro w hSw; (try dsimp only at hSw); go_simp; (try with_reducible rfl))
              try simp only [Act.put, List.setIfInBounds_toArray, List.set_cons_zero, List.set_cons_succ]
              refine seq_take _ ?_ rfl (Or.inl ⟨by rfl, ?_⟩) ?_
              rotate_left
              · (intro w hSw; (try dsimp only at hSw); go_simp; (try with_reducible rfl))
              try simp only [Act.put, List.setIfInBounds_toArray, List.set_cons_zero, List.set_cons_succ]
              refine NoPanic.normal ?_
              go_wp2_with fail
              go_ret
              refine ⟨_, rfl, B0.trans (Ds0.mono B0.size), ⟨(fun h => by cases h), fun h => ?_⟩⟩
              have := (any_take (Nat.le_of_lt hkl) p).1 (by have := (h k hkl).1; rwa [HP.out] at this) j hjk
              rw [HU.out] at this
              exact absurd (by omega) this
            · have he : ((u : Int) == (p : Int)) = false := by simpa using hup
              have HUP := Lib.hid hup
              have Ds0 : Below wr.heap.size wr wr.drew := (Below.refl _ _).drew
              refine wp_region_seq (.pre [(0, true), (1, true), (2, true), (3, true), (4, true), (5, true), (6, true), (7, true), (8, true), (9, true), (10, true)] .done) (fun W => W.cell? ⟨b, q + k * 2, none⟩ = some (.int .u64 (p : Int)) ∧ W.cell? ⟨b, q + j * 2, none⟩ = some (.int .u64 (u : Int))) (by kernel_rfl) (by kernel_rfl) ?_ (by kernel_rfl) (HS.out _ Ds0) ?_
              · refine chk_pre _ _ _ (by as_aux_lemma => kernel_rfl) ?_
                exact (by as_aux_lemma => kernel_rfl)
              refine seq_take _ ?_ rfl (Or.inl ⟨by rfl, ?_⟩) ?_
              rotate_left
              · (intro w hSw; (try dsimp only at hSw); go_simp; (try with_reducible rfl))
              try simp only [Act.put, List.setIfInBounds_toArray, List.set_cons_zero, List.set_cons_succ]
              refine seq_take _ ?_ rfl (Or.inl ⟨by rfl, ?_⟩) ?_
              rotate_left
              · (intro w hSw; (try dsimp only at hSw); go_simp; (try with_reducible rfl))
              try simp only [Act.put, List.setIfInBounds_toArray, List.set_cons_zero, List.set_cons_succ]
              refine seq_take _ ?_ rfl (Or.inl ⟨by rfl, ?_⟩) ?_
              rotate_left
              · (intro w hSw; (try dsimp only at hSw); go_simp; (try with_reducible rfl))
              try simp only [Act.put, List.setIfInBounds_toArray, List.set_cons_zero, List.set_cons_succ]
              refine seq_take _ ?_ rfl (Or.inl ⟨by rfl, ?_⟩) ?_
              rotate_left
              · (intro w hSw; (try dsimp only at hSw); go_simp; (try with_reducible rfl))
              try simp only [Act.put, List.setIfInBounds_toArray, List.set_cons_zero, List.set_cons_succ]
              refine seq_take _ ?_ rfl (Or.inl ⟨by rfl, ?_⟩) ?_
              rotate_left
              · (intro w hSw; (try dsimp only at hSw); go_simp; (try with_reducible rfl))
              try simp only [Act.put, List.setIfInBounds_toArray, List.set_cons_zero, List.set_cons_succ]
              refine seq_take _ ?_ rfl (Or.inl ⟨by rfl, ?_⟩) ?_
              rotate_left
              · (intro w hSw; (try dsimp only at hSw); go_simp; (try with_reducible rfl))
              try simp only [Act.put, List.setIfInBounds_toArray, List.set_cons_zero, List.set_cons_succ]
              refine seq_take _ ?_ rfl (Or.inl ⟨by rfl, ?_⟩) ?_
              rotate_left
              · (intro w hSw; (try dsimp only at hSw); go_simp; (try with_reducible rfl))
              try simp only [Act.put, List.setIfInBounds_toArray, List.set_cons_zero, List.set_cons_succ]
              refine seq_take _ ?_ rfl (Or.inl ⟨by rfl, ?_⟩) ?_
              rotate_left
              · (intro w hSw; (try dsimp only at hSw); go_simp; (try with_reducible rfl))
              try simp only [Act.put, List.setIfInBounds_toArray, List.set_cons_zero, List.set_cons_succ]
              refine seq_take _ ?_ rfl (Or.inl ⟨by rfl, ?_⟩) ?_
              rotate_left
              · (intro w hSw; (try dsimp only at hSw); go_simp; (try with_reducible rfl))
              try simp only [Act.put, List.setIfInBounds_toArray, List.set_cons_zero, List.set_cons_succ]
              refine seq_take _ ?_ rfl (Or.inl ⟨by rfl, ?_⟩) ?_
              rotate_left
              · (intro w hSw; (try dsimp only at hSw); go_simp; (try with_reducible rfl))
              try simp only [Act.put, List.setIfInBounds_toArray, List.set_cons_zero, List.set_cons_succ]
              refine seq_take _ ?_ rfl (Or.inl ⟨by rfl, ?_⟩) ?_
              rotate_left
              · (intro w hSw; (try dsimp only at hSw); go_simp; (try with_reducible rfl))
              try simp only [Act.put, List.setIfInBounds_toArray, List.set_cons_zero, List.set_cons_succ]
              refine NoPanic.normal ?_
              go_wp2_with fail
              go_roundw
              case rel =>
                refine ⟨j + 1, by omega, by go_num, B0.trans (Ds0.mono B0.size), ?_⟩
                intro i hi
                rcases Nat.lt_or_ge i j with h1 | h1
                · exact hne.out i h1
                · obtain rfl : i = j := by omega
                  rw [HU.out]
                  intro e
                  exact HUP.out (by rw [e])
              case measure => simp [intOf]; omega
          · obtain rfl : j = k := by omega
            go_wp2_with fail
            go_roundw
            case rel =>
              refine ⟨j + 1, by omega, by go_num, B0, ?_⟩
              intro i hi
              rcases Nat.lt_or_ge i j with h1 | h1
              · exact hok.out i h1
              · obtain rfl : i = j := by omega
                exact ⟨(any_take (Nat.le_of_lt hkl) _).2 (by rw [HP.out]; exact hne.out), by rw [HP.out, HV.out]; exact hvp, by rw [HP.out]; exact HPr.out.2⟩
            case measure => simp [intOf]; omega
      · have hge : decide (p ≤ v) = true := decide_eq_true (by omega)
        have Dr0 : Below wr.heap.size wr wr.drew := (Below.refl _ _).drew
        refine wp_region_seq (.pre [(0, true), (1, true), (2, true), (3, true), (4, true), (5, true), (6, true), (7, true), (8, true), (9, true), (10, true), (11, true), (12, false), (13, true), (14, true), (15, true), (16, true), (17, true), (18, true), (19, true), (20, true), (21, true), (22, true), (23, true), (24, true)] (.pre [(25, true), (26, true), (27, true)] .done)) (fun W => W.cell? ⟨b, q + k * 2, none⟩ = some (.int .u64 (p : Int)) ∧ W.cell? ⟨b, q + k * 2 + 1, none⟩ = some (.int .u64 (v : Int))) (by kernel_rfl) (by kernel_rfl) ?_ (by kernel_rfl) (HS.out _ Dr0) ?_
        · refine chk_pre _ _ _ (by as_aux_lemma => kernel_rfl) ?_
          refine chk_pre _ _ _ (by as_aux_lemma => kernel_rfl) ?_
          exact (by as_aux_lemma => kernel_rfl)
        refine seq_take _ ?_ rfl (Or.inl ⟨by rfl, ?_⟩) ?_
        rotate_left
        · (intro w hSw; (try dsimp only at hSw); go_simp; (try with_reducible rfl))
        try simp only [Act.put, List.setIfInBounds_toArray, List.set_cons_zero, List.set_cons_succ]
        refine seq_take _ ?_ rfl (Or.inl ⟨by rfl, ?_⟩) ?_
        rotate_left
        · (intro w hSw; (try dsimp only at hSw); go_simp; (try with_reducible rfl))
        try simp only [Act.put, List.setIfInBounds_toArray, List.set_cons_zero, List.set_cons_succ]
        refine seq_take _ ?_ rfl (Or.inl ⟨by rfl, ?_⟩) ?_
        rotate_left
        · (intro w hSw; (try dsimp only at hSw); go_simp; (try with_reducible rfl))
        try simp only [Act.put, List.setIfInBounds_toArray, List.set_cons_zero, List.set_cons_succ]
        refine seq_take _ ?_ rfl (Or.inl ⟨by rfl, ?_⟩) ?_
        rotate_left
        · (intro w hSw; (try dsimp only at hSw); go_simp; (try with_reducible rfl))
        try simp only [Act.put, List.setIfInBounds_toArray, List.set_cons_zero, List.set_cons_succ]
        refine seq_take _ ?_ rfl (Or.inl ⟨by rfl, ?_⟩) ?_
        rotate_left
        · (intro w hSw; (try dsimp only at hSw); go_simp; (try with_reducible rfl))
        try simp only [Act.put, List.setIfInBounds_toArray, List.set_cons_zero, List.set_cons_succ]
        refine seq_take _ ?_ rfl (Or.inl ⟨by rfl, ?_⟩) ?_
        rotate_left
        · (intro w hSw; (try dsimp only at hSw); go_simp; (try with_reducible rfl))
        try simp only [Act.put, List.setIfInBounds_toArray, List.set_cons_zero, List.set_cons_succ]
        refine seq_take _ ?_ rfl (Or.inl ⟨by rfl, ?_⟩) ?_
        rotate_left
        · (intro w hSw; (try dsimp only at hSw); go_simp; (try with_reducible rfl))
        try simp only [Act.put, List.setIfInBounds_toArray, List.set_cons_zero, List.set_cons_succ]
        refine seq_take _ ?_ rfl (Or.inl ⟨by rfl, ?_⟩) ?_
        rotate_left
        · (intro w hSw; (try dsimp only at hSw); go_simp; (try with_reducible rfl))
        try simp only [Act.put, List.setIfInBounds_toArray, List.set_cons_zero, List.set_cons_succ]
        refine seq_take _ ?_ rfl (Or.inl ⟨by rfl, ?_⟩) ?_
        rotate_left
        · (intro w hSw; (try dsimp only at hSw); go_simp; (try with_reducible rfl))
        try simp only [Act.put, List.setIfInBounds_toArray, List.set_cons_zero, List.set_cons_succ]
        refine seq_take _ ?_ rfl (Or.inl ⟨by rfl, ?_⟩) ?_
        rotate_left
        · (intro w hSw; (try dsimp only at hSw); go_simp; (try with_reducible rfl))
        try simp only [Act.put, List.setIfInBounds_toArray, List.set_cons_zero, List.set_cons_succ]
        refine seq_take _ ?_ rfl (Or.inl ⟨by rfl, ?_⟩) ?_
        rotate_left
        · (intro w hSw; (try dsimp only at hSw); go_simp; (try with_reducible rfl))
        try simp only [Act.put, List.setIfInBounds_toArray, List.set_cons_zero, List.set_cons_succ]
        refine seq_take _ ?_ rfl (Or.inl ⟨by rfl, ?_⟩) ?_
        rotate_left
        · (intro w hSw; (try dsimp only at hSw); go_simp; (try with_reducible rfl))
        try simp only [Act.put, List.setIfInBounds_toArray, List.set_cons_zero, List.set_cons_succ]
        refine seq_one _ rfl fun K hK => ?_
        go_simp
        (with_reducible refine (qprime_t p _ HPr.out.1 hpl).mono ?_)
        rintro e vr1 ⟨rfl, br1⟩
        have Dr1 : Below wr.heap.size wr vr1 := Below.trans Dr0 (br1.mono (Below.size Dr0))
        go_wp2_with fail
        refine hK.out _ _ (HS.out _ Dr1) (fun hHeld => ?_)
        clear hK K hHeld
        try simp only [Act.put, List.setIfInBounds_toArray, List.set_cons_zero, List.set_cons_succ]
        refine seq_take _ ?_ rfl (Or.inl ⟨by rfl, ?_⟩) ?_
        rotate_left
        · (intro w hSw; (try dsimp only at hSw); go_simp; (try with_reducible rfl))
        try simp only [Act.put, List.setIfInBounds_toArray, List.set_cons_zero, List.set_cons_succ]
        refine seq_take _ ?_ rfl (Or.inl ⟨by rfl, ?_⟩) ?_
        rotate_left
        · (intro w hSw; (try dsimp only at hSw); go_simp; (try with_reducible rfl))
        try simp only [Act.put, List.setIfInBounds_toArray, List.set_cons_zero, List.set_cons_succ]
        refine seq_take _ ?_ rfl (Or.inl ⟨by rfl, ?_⟩) ?_
        rotate_left
        · (intro w hSw; (try dsimp only at hSw); go_simp; (try with_reducible rfl))
        try simp only [Act.put, List.setIfInBounds_toArray, List.set_cons_zero, List.set_cons_succ]
        refine seq_take _ ?_ rfl (Or.inl ⟨by rfl, ?_⟩) ?_
        rotate_left
        · (intro w hSw; (try dsimp only at hSw); go_simp; (try with_reducible rfl))
        try simp only [Act.put, List.setIfInBounds_toArray, List.set_cons_zero, List.set_cons_succ]
        refine seq_take _ ?_ rfl (Or.inl ⟨by rfl, ?_⟩) ?_
        rotate_left
        · (intro w hSw; (try dsimp only at hSw); go_simp; (try with_reducible rfl))
        try simp only [Act.put, List.setIfInBounds_toArray, List.set_cons_zero, List.set_cons_succ]
        refine seq_take _ ?_ rfl (Or.inl ⟨by rfl, ?_⟩) ?_
        rotate_left
        · (intro w hSw; (try dsimp only at hSw); go_simp; (try with_reducible rfl))
        try simp only [Act.put, List.setIfInBounds_toArray, List.set_cons_zero, List.set_cons_succ]
        refine seq_take _ ?_ rfl (Or.inl ⟨by rfl, ?_⟩) ?_
        rotate_left
        · (intro w hSw; (try dsimp only at hSw); go_simp; (try with_reducible rfl))
        try simp only [Act.put, List.setIfInBounds_toArray, List.set_cons_zero, List.set_cons_succ]
        refine seq_take _ ?_ rfl (Or.inl ⟨by rfl, ?_⟩) ?_
        rotate_left
        · (intro w hSw; (try dsimp only at hSw); go_simp; (try with_reducible rfl))
        try simp only [Act.put, List.setIfInBounds_toArray, List.set_cons_zero, List.set_cons_succ]
        refine seq_take _ ?_ rfl (Or.inl ⟨by rfl, ?_⟩) ?_
        rotate_left
        · (intro w hSw; (try dsimp only at hSw); go_simp; (try with_reducible rfl))
        try simp only [Act.put, List.setIfInBounds_toArray, List.set_cons_zero, List.set_cons_succ]
        refine seq_take _ ?_ rfl (Or.inl ⟨by rfl, ?_⟩) ?_
        rotate_left
        · (intro w hSw; (try dsimp only at hSw); go_simp; (try with_reducible rfl))
        try simp only [Act.put, List.setIfInBounds_toArray, List.set_cons_zero, List.set_cons_succ]
        refine seq_take _ ?_ rfl (Or.inl ⟨by rfl, ?_⟩) ?_
        rotate_left
        · (intro w hSw; (try dsimp only at hSw); go_simp; (try with_reducible rfl))
        try simp only [Act.put, List.setIfInBounds_toArray, List.set_cons_zero, List.set_cons_succ]
        refine seq_take _ ?_ rfl (Or.inl ⟨by rfl, ?_⟩) ?_
        rotate_left
        · (intro w hSw; (try dsimp only at hSw); go_simp; (try with_reducible rfl))
        try simp only [Act.put, List.setIfInBounds_toArray, List.set_cons_zero, List.set_cons_succ]
        refine seq_take _ ?_ rfl (Or.inl ⟨by rfl, ?_⟩) ?_
        rotate_left
        · (intro w hSw; (try dsimp only at hSw); go_simp; (try with_reducible rfl))
        try simp only [Act.put, List.setIfInBounds_toArray, List.set_cons_zero, List.set_cons_succ]
        refine seq_take _ ?_ rfl (Or.inl ⟨by rfl, ?_⟩) ?_
        rotate_left
        · (intro w hSw; (try dsimp only at hSw); go_simp; (try with_reducible rfl))
        try simp only [Act.put, List.setIfInBounds_toArray, List.set_cons_zero, List.set_cons_succ]
        refine seq_take _ ?_ rfl (Or.inl ⟨by rfl, ?_⟩) ?_
        rotate_left
        · (intro w hSw; (try dsimp only at hSw); go_simp; (try with_reducible rfl))
        try simp only [Act.put, List.setIfInBounds_toArray, List.set_cons_zero, List.set_cons_succ]
        refine NoPanic.normal ?_
        go_wp2_with fail
        go_ret
        refine ⟨_, rfl, B0.trans (Dr1.mono B0.size), ⟨(fun h => by cases h), fun h => ?_⟩⟩
        have := (h k hkl).2.1
        rw [HP.out, HV.out] at this
        omega
    · obtain rfl : k = n := by omega
      go_wp2_with fail
      go_ret
      exact ⟨_, rfl, B0, ⟨fun _ => fun i hi => hok.out i (by omega), fun _ => rfl⟩⟩
set_option maxRecDepth 100000 in
set_option maxHeartbeats 4000000 in
theorem rcons_z (A : Option Addr) (n c : Nat) (L : List (Nat × Nat)) (ga : Bool) (Aa : Option Addr) (na ca : Nat) {k0 : Nat} {z : Int} (w : World) (h : ResL w A n L) (ha : IsInt w ga Aa na ca z) (hn : n ≤ 1000) (hp : PrL L) (hok : OkR L) (sa : Sz k0 z) (hk0 : k0 ≤ 9000) :
    Calls Tryd.prog 16 #[.slice A n c, .agg #[.bool ga, .slice Aa na ca]] w (fun e w' => ∃ v, e = .returned (.bool v) ∧ Below w.heap.size w w' ∧ Hid (v = true ↔ Cons L z)) := by
  have B0 := (Below.refl w.heap.size w).alloc (Nat.le_refl _) (.cells #[.bool ga, .slice Aa na ca] 28)
  have X0 := Slot2.new w (.bool ga) (.slice Aa na ca) 28
  have I0 := ha.below B0
  have hlen := h.len
  have H0 := Lib.hid h
  have HPL := Lib.hid hp
  have HOK := Lib.hid hok
  have HV := Lib.hid (rvalid4_z A n c L _ (h.below B0) hn hp)
  clear h hp ha hok
  go_enter Tryd.func16, Tryd.ntmps16
  generalize hW : w.alloc (.cells #[.bool ga, .slice Aa na ca] 28) = W0 at *
  go_wp2_with fail
  try rw [hW]
  clear hW
  (with_reducible refine HV.out.mono ?_)
  rintro e w1 ⟨v, rfl, b1, hv⟩
  obtain rfl := hv.out.2 HOK.out
  replace X0 := X0.after b1
  replace I0 := I0.below b1
  replace B0 := B0.trans (b1.mono B0.size)
  clear b1 HV hv
  go_wp2_with fail
  go_loopw [5] (fun s5 wr => ∃ k : Nat, k ≤ n ∧ s5 = .int .i64 (k : Int) ∧ Slot2 wr w.heap.size (.bool ga) (.slice Aa na ca) ∧ IsInt wr ga Aa na ca z ∧ Below w.heap.size w wr ∧ Hid (∀ i, i < k → z % ((L.getD i (0, 0)).1 : Nat) = ((L.getD i (0, 0)).2 : Nat))) (fun s5 _ => n - (intOf s5).toNat)
  case atStart => exact ⟨0, Nat.zero_le _, rfl, X0, I0, B0, fun i h => absurd h (by omega)⟩
  case round =>
    clear X0 I0 B0
    obtain ⟨k, hk, rfl, X, I, B, hI⟩ := hrel
    rcases Nat.lt_or_ge k n with hkn | hkn
    · have hkl : k < L.length := by rw [hlen]; exact hkn
      obtain ⟨b, q, hA, hb, hc⟩ := H0.out.rd (by omega)
      obtain ⟨c0, c1⟩ := hc k hkn
      obtain ⟨p, hp⟩ : ∃ p, (L.getD k (0, 0)).1 = p := ⟨_, rfl⟩
      obtain ⟨v, hv⟩ : ∃ v, (L.getD k (0, 0)).2 = v := ⟨_, rfl⟩
      have hbd := HOK.out.bound _ (getD_mem hkl)
      rw [hp, hv] at hbd
      rw [hp] at c0
      rw [hv] at c1
      obtain ⟨hvp, hpl, hpf⟩ := hbd
      have hp2 := (primeF_lt hpf).2
      have HP := Lib.hid hp
      have HVv := Lib.hid hv
      clear hp hv hc hpf
      subst hA
      have Sp : Sz 1 (p : Int) := Sz.of (by rw [Int.natAbs_natCast]; omega) (by decide)
      have hp0 : (p : Int) ≠ 0 := by omega
      go_upto_region 6 with (fail)
      have HS : Hid (∀ V, Below wr.heap.size wr V → (V.cell? ⟨b, q + k * 2, none⟩ = some (.int .u64 (p : Int)) ∧ V.cell? ⟨b, q + k * 2 + 1, none⟩ = some (.int .u64 (v : Int))) ∧ (V.cell? ⟨w.heap.size, 0, none⟩ = some (.bool ga) ∧ V.cell? ⟨w.heap.size, 1, none⟩ = some (.slice Aa na ca))) := fun V hV => by
        have hB := B.trans (hV.mono B.size)
        exact ⟨⟨(hB.cell (p := ⟨b, q + k * 2, none⟩) hb).trans c0, (hB.cell (p := ⟨b, q + k * 2 + 1, none⟩) hb).trans c1⟩, (X.after hV).1, (X.after hV).2.1⟩
      obtain ⟨t, ht⟩ : ∃ t, decide (z % (p : Int) = (v : Int)) = t := ⟨_, rfl⟩
      have HT := Lib.hid ht
      clear ht
      cases t with
      | true =>
        have Dr0 : Below wr.heap.size wr wr.drew := (Below.refl _ _).drew
        refine wp_region_seq (.pre [(0, true), (1, true), (2, true), (3, true), (4, true), (5, true), (8, true), (9, true), (10, true), (11, true), (12, true), (6, false), (7, false), (13, false), (14, false), (15, true)] .done) (fun W => (W.cell? ⟨b, q + k * 2, none⟩ = some (.int .u64 (p : Int)) ∧ W.cell? ⟨b, q + k * 2 + 1, none⟩ = some (.int .u64 (v : Int))) ∧ (W.cell? ⟨w.heap.size, 0, none⟩ = some (.bool ga) ∧ W.cell? ⟨w.heap.size, 1, none⟩ = some (.slice Aa na ca))) (by kernel_rfl) (by kernel_rfl) ?_ (by kernel_rfl) (HS.out _ Dr0) ?_
        · refine chk_pre _ _ _ (by as_aux_lemma => kernel_rfl) ?_
          exact (by as_aux_lemma => kernel_rfl)
        refine seq_take _ ?_ rfl (Or.inl ⟨by rfl, ?_⟩) ?_
        rotate_left
        · (intro w hSw; (try dsimp only at hSw); go_simp; (try with_reducible rfl))
        try simp only [Act.put, List.setIfInBounds_toArray, List.set_cons_zero, List.set_cons_succ]
        refine seq_take _ ?_ rfl (Or.inl ⟨by rfl, ?_⟩) ?_
        rotate_left
        · (intro w hSw; (try dsimp only at hSw); go_simp; (try with_reducible rfl))
        try simp only [Act.put, List.setIfInBounds_toArray, List.set_cons_zero, List.set_cons_succ]
        refine seq_take _ ?_ rfl (Or.inl ⟨by rfl, ?_⟩) ?_
        rotate_left
        · (intro w hSw; (try dsimp only at hSw); go_simp; (try with_reducible rfl))
        try simp only [Act.put, List.setIfInBounds_toArray, List.set_cons_zero, List.set_cons_succ]
        refine seq_take _ ?_ rfl (Or.inl ⟨by rfl, ?_⟩) ?_
        rotate_left
        · (intro w hSw; (try dsimp only at hSw); go_simp; (try with_reducible rfl))
        try simp only [Act.put, List.setIfInBounds_toArray, List.set_cons_zero, List.set_cons_succ]
        refine seq_take _ ?_ rfl (Or.inl ⟨by rfl, ?_⟩) ?_
        rotate_left
        · (intro w hSw; (try dsimp only at hSw); go_simp; (try with_reducible rfl))
        try simp only [Act.put, List.setIfInBounds_toArray, List.set_cons_zero, List.set_cons_succ]
        refine seq_take _ ?_ rfl (Or.inl ⟨by rfl, ?_⟩) ?_
        rotate_left
        · (intro w hSw; (try dsimp only at hSw); go_simp; (try with_reducible rfl))
        try simp only [Act.put, List.setIfInBounds_toArray, List.set_cons_zero, List.set_cons_succ]
        refine seq_take _ ?_ rfl (Or.inl ⟨by rfl, ?_⟩) ?_
        rotate_left
        · (intro w hSw; (try dsimp only at hSw); go_simp; (try with_reducible rfl))
        try simp only [Act.put, List.setIfInBounds_toArray, List.set_cons_zero, List.set_cons_succ]
        refine seq_take _ ?_ rfl (Or.inl ⟨by rfl, ?_⟩) ?_
        rotate_left
        · (intro w hSw; (try dsimp only at hSw); go_simp; (try with_reducible rfl))
        try simp only [Act.put, List.setIfInBounds_toArray, List.set_cons_zero, List.set_cons_succ]
        refine seq_take _ ?_ rfl (Or.inl ⟨by rfl, ?_⟩) ?_
        rotate_left
        · (intro w hSw; (try dsimp only at hSw); go_simp; (try with_reducible rfl))
        try simp only [Act.put, List.setIfInBounds_toArray, List.set_cons_zero, List.set_cons_succ]
        refine seq_take _ ?_ rfl (Or.inl ⟨by rfl, ?_⟩) ?_
        rotate_left
        · (intro w hSw; (try dsimp only at hSw); go_simp; (try with_reducible rfl))
        try simp only [Act.put, List.setIfInBounds_toArray, List.set_cons_zero, List.set_cons_succ]
        refine seq_take _ ?_ rfl (Or.inl ⟨by rfl, ?_⟩) ?_
        rotate_left
        · (intro w hSw; (try dsimp only at hSw); go_simp; (try with_reducible rfl))
        try simp only [Act.put, List.setIfInBounds_toArray, List.set_cons_zero, List.set_cons_succ]
        refine seq_one _ rfl fun K hK => ?_
        go_simp
        (with_reducible refine (whole_z p _ (by omega)).mono ?_)
        rintro e vr1 ⟨gr1, Ar1, nr1, cr1, rfl, ir1, br1⟩
        have Dr1 : Below wr.heap.size wr vr1 := Below.trans Dr0 (br1.mono (Below.size Dr0))
        go_wp2_with fail
        refine hK.out _ _ (HS.out _ Dr1) (fun hHeld => ?_)
        clear hK K hHeld
        try simp only [Act.put, List.setIfInBounds_toArray, List.set_cons_zero, List.set_cons_succ]
        refine seq_one _ rfl fun K hK => ?_
        go_simp
        (with_reducible refine (rest_z ga Aa na ca gr1 Ar1 nr1 cr1 _ (I.below Dr1) ir1 sa Sp (by omega) hp0).mono ?_)
        rintro e vr2 ⟨gr2, Ar2, nr2, cr2, rfl, ir2, br2⟩
        have Dr2 : Below wr.heap.size wr vr2 := Below.trans Dr1 (br2.mono (Below.size Dr1))
        go_wp2_with fail
        refine hK.out _ _ (HS.out _ Dr2) (fun hHeld => ?_)
        clear hK K hHeld
        try simp only [Act.put, List.setIfInBounds_toArray, List.set_cons_zero, List.set_cons_succ]
        refine seq_one _ rfl fun K hK => ?_
        go_simp
        (with_reducible refine (whole_z v _ (by omega)).mono ?_)
        rintro e vr3 ⟨gr3, Ar3, nr3, cr3, rfl, ir3, br3⟩
        have Dr3 : Below wr.heap.size wr vr3 := Below.trans Dr2 (br3.mono (Below.size Dr2))
        go_wp2_with fail
        refine hK.out _ _ (HS.out _ Dr3) (fun hHeld => ?_)
        clear hK K hHeld
        try simp only [Act.put, List.setIfInBounds_toArray, List.set_cons_zero, List.set_cons_succ]
        refine seq_one _ rfl fun K hK => ?_
        go_simp
        (with_reducible refine (same_v gr2 gr3 Ar2 Ar3 nr2 cr2 nr3 cr3 _ true (ir2.below br3) ir3 HT.out.symm).mono ?_)
        rintro e vr4 ⟨rfl, br4⟩
        have Dr4 : Below wr.heap.size wr vr4 := Below.trans Dr3 (br4.mono (Below.size Dr3))
        go_wp2_with fail
        refine hK.out _ _ (HS.out _ Dr4) (fun hHeld => ?_)
        clear hK K hHeld
        try simp only [Act.put, List.setIfInBounds_toArray, List.set_cons_zero, List.set_cons_succ]
        refine seq_take _ ?_ rfl (Or.inl ⟨by rfl, ?_⟩) ?_
        rotate_left
        · (intro w hSw; (try dsimp only at hSw); go_simp; (try with_reducible rfl))
        try simp only [Act.put, List.setIfInBounds_toArray, List.set_cons_zero, List.set_cons_succ]
        refine NoPanic.normal ?_
        replace B := B.trans (Dr4.mono B.size)
        go_wp2_with fail
        go_roundw
        case rel =>
          refine ⟨k + 1, by omega, by go_num, X.after Dr4, I.below Dr4, B, ?_⟩
          intro i hi
          rcases Nat.lt_or_ge i k with h1 | h1
          · exact hI.out i h1
          · obtain rfl : i = k := by omega
            rw [HP.out, HVv.out]
            exact of_decide_eq_true HT.out
        case measure => simp [intOf]; omega
      | false =>
        have Dr0 : Below wr.heap.size wr wr.drew := (Below.refl _ _).drew
        refine wp_region_seq (.pre [(0, true), (1, true), (2, true), (3, true), (4, true), (5, true), (8, true), (9, true), (10, true), (11, true), (12, true), (6, false), (7, false), (13, false), (14, false), (15, true)] .done) (fun W => (W.cell? ⟨b, q + k * 2, none⟩ = some (.int .u64 (p : Int)) ∧ W.cell? ⟨b, q + k * 2 + 1, none⟩ = some (.int .u64 (v : Int))) ∧ (W.cell? ⟨w.heap.size, 0, none⟩ = some (.bool ga) ∧ W.cell? ⟨w.heap.size, 1, none⟩ = some (.slice Aa na ca))) (by kernel_rfl) (by kernel_rfl) ?_ (by kernel_rfl) (HS.out _ Dr0) ?_
        · refine chk_pre _ _ _ (by as_aux_lemma => kernel_rfl) ?_
          exact (by as_aux_lemma => kernel_rfl)
        refine seq_take _ ?_ rfl (Or.inl ⟨by rfl, ?_⟩) ?_
        rotate_left
        · (intro w hSw; (try dsimp only at hSw); go_simp; (try with_reducible rfl))
        try simp only [Act.put, List.setIfInBounds_toArray, List.set_cons_zero, List.set_cons_succ]
        refine seq_take _ ?_ rfl (Or.inl ⟨by rfl, ?_⟩) ?_
        rotate_left
        · (intro w hSw; (try dsimp only at hSw); go_simp; (try with_reducible rfl))
        try simp only [Act.put, List.setIfInBounds_toArray, List.set_cons_zero, List.set_cons_succ]
        refine seq_take _ ?_ rfl (Or.inl ⟨by rfl, ?_⟩) ?_
        rotate_left
        · (intro w hSw; (try dsimp only at hSw); go_simp; (try with_reducible rfl))
        try simp only [Act.put, List.setIfInBounds_toArray, List.set_cons_zero, List.set_cons_succ]
        refine seq_take _ ?_ rfl (Or.inl ⟨by rfl, ?_⟩) ?_
        rotate_left
        · (intro w hSw; (try dsimp only at hSw); go_simp; (try with_reducible rfl))
        try simp only [Act.put, List.setIfInBounds_toArray, List.set_cons_zero, List.set_cons_succ]
        refine seq_take _ ?_ rfl (Or.inl ⟨by rfl, ?_⟩) ?_
        rotate_left
        · (intro w hSw; (try dsimp only at hSw); go_simp; (try with_reducible rfl))
        try simp only [Act.put, List.setIfInBounds_toArray, List.set_cons_zero, List.set_cons_succ]
        refine seq_take _ ?_ rfl (Or.inl ⟨by rfl, ?_⟩) ?_
        rotate_left
        · (intro w hSw; (try dsimp only at hSw); go_simp; (try with_reducible rfl))
        try simp only [Act.put, List.setIfInBounds_toArray, List.set_cons_zero, List.set_cons_succ]
        refine seq_take _ ?_ rfl (Or.inl ⟨by rfl, ?_⟩) ?_
        rotate_left
        · (intro w hSw; (try dsimp only at hSw); go_simp; (try with_reducible rfl))
        try simp only [Act.put, List.setIfInBounds_toArray, List.set_cons_zero, List.set_cons_succ]
        refine seq_take _ ?_ rfl (Or.inl ⟨by rfl, ?_⟩) ?_
        rotate_left
        · (intro w hSw; (try dsimp only at hSw); go_simp; (try with_reducible rfl))
        try simp only [Act.put, List.setIfInBounds_toArray, List.set_cons_zero, List.set_cons_succ]
        refine seq_take _ ?_ rfl (Or.inl ⟨by rfl, ?_⟩) ?_
        rotate_left
        · (intro w hSw; (try dsimp only at hSw); go_simp; (try with_reducible rfl))
        try simp only [Act.put, List.setIfInBounds_toArray, List.set_cons_zero, List.set_cons_succ]
        refine seq_take _ ?_ rfl (Or.inl ⟨by rfl, ?_⟩) ?_
        rotate_left
        · (intro w hSw; (try dsimp only at hSw); go_simp; (try with_reducible rfl))
        try simp only [Act.put, List.setIfInBounds_toArray, List.set_cons_zero, List.set_cons_succ]
        refine seq_take _ ?_ rfl (Or.inl ⟨by rfl, ?_⟩) ?_
        rotate_left
        · (intro w hSw; (try dsimp only at hSw); go_simp; (try with_reducible rfl))
        try simp only [Act.put, List.setIfInBounds_toArray, List.set_cons_zero, List.set_cons_succ]
        refine seq_one _ rfl fun K hK => ?_
        go_simp
        (with_reducible refine (whole_z p _ (by omega)).mono ?_)
        rintro e vr1 ⟨gr1, Ar1, nr1, cr1, rfl, ir1, br1⟩
        have Dr1 : Below wr.heap.size wr vr1 := Below.trans Dr0 (br1.mono (Below.size Dr0))
        go_wp2_with fail
        refine hK.out _ _ (HS.out _ Dr1) (fun hHeld => ?_)
        clear hK K hHeld
        try simp only [Act.put, List.setIfInBounds_toArray, List.set_cons_zero, List.set_cons_succ]
        refine seq_one _ rfl fun K hK => ?_
        go_simp
        (with_reducible refine (rest_z ga Aa na ca gr1 Ar1 nr1 cr1 _ (I.below Dr1) ir1 sa Sp (by omega) hp0).mono ?_)
        rintro e vr2 ⟨gr2, Ar2, nr2, cr2, rfl, ir2, br2⟩
        have Dr2 : Below wr.heap.size wr vr2 := Below.trans Dr1 (br2.mono (Below.size Dr1))
        go_wp2_with fail
        refine hK.out _ _ (HS.out _ Dr2) (fun hHeld => ?_)
        clear hK K hHeld
        try simp only [Act.put, List.setIfInBounds_toArray, List.set_cons_zero, List.set_cons_succ]
        refine seq_one _ rfl fun K hK => ?_
        go_simp
        (with_reducible refine (whole_z v _ (by omega)).mono ?_)
        rintro e vr3 ⟨gr3, Ar3, nr3, cr3, rfl, ir3, br3⟩
        have Dr3 : Below wr.heap.size wr vr3 := Below.trans Dr2 (br3.mono (Below.size Dr2))
        go_wp2_with fail
        refine hK.out _ _ (HS.out _ Dr3) (fun hHeld => ?_)
        clear hK K hHeld
        try simp only [Act.put, List.setIfInBounds_toArray, List.set_cons_zero, List.set_cons_succ]
        refine seq_one _ rfl fun K hK => ?_
        go_simp
        (with_reducible refine (same_v gr2 gr3 Ar2 Ar3 nr2 cr2 nr3 cr3 _ false (ir2.below br3) ir3 HT.out.symm).mono ?_)
        rintro e vr4 ⟨rfl, br4⟩
        have Dr4 : Below wr.heap.size wr vr4 := Below.trans Dr3 (br4.mono (Below.size Dr3))
        go_wp2_with fail
        refine hK.out _ _ (HS.out _ Dr4) (fun hHeld => ?_)
        clear hK K hHeld
        try simp only [Act.put, List.setIfInBounds_toArray, List.set_cons_zero, List.set_cons_succ]
        refine seq_take _ ?_ rfl (Or.inl ⟨by rfl, ?_⟩) ?_
        rotate_left
        · (intro w hSw; (try dsimp only at hSw); go_simp; (try with_reducible rfl))
        try simp only [Act.put, List.setIfInBounds_toArray, List.set_cons_zero, List.set_cons_succ]
        refine NoPanic.normal ?_
        go_wp2_with fail
        go_ret
        refine ⟨_, rfl, B.trans (Dr4.mono B.size), ⟨(fun h => by cases h), fun h => ?_⟩⟩
        have := h.2 k hkl
        rw [HP.out, HVv.out] at this
        exact absurd this (of_decide_eq_false HT.out)
    · obtain rfl : k = n := by omega
      go_wp2_with fail
      go_ret
      exact ⟨_, rfl, B, ⟨fun _ => ⟨HOK.out, fun i hi => hI.out i (by omega)⟩, fun _ => rfl⟩⟩
end Go.Proofs.YtclmenpclkmfeaaDoor
