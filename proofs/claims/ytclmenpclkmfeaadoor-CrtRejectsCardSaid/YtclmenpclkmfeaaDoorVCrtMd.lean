/- Contract of torsionref04.Made. -/
import Derived.Test.YtclmenpclkmfeaaDoorVCrtM
namespace Go.Proofs.YtclmenpclkmfeaaDoor
open Go.RowKit Go.Maps
/-- A row copied into a new one. -/
theorem wpList_copy_r {ops : Array Oper} {rest : List Oper} {o : Oper} {a : Act} {Q : Exit → Act → World → Prop} (w : World) (hgd : o.guard = none) (s x : Operand)
    (ho : o.op = .call { callee := .builtin .append, args := #[s, x], argTypes := #[24, 24] })
    (base g c : Nat) (hs : a.eval s = .slice (some ⟨g, 0, none⟩) 0 c) (hown : OwnR w base (.slice (some ⟨g, 0, none⟩) 0 c) 0 [])
    (base' g' m c' : Nat) (M : List (Nat × Nat)) (hx : a.eval x = .slice (some ⟨g', 0, none⟩) m c') (hr : OwnR w base' (.slice (some ⟨g', 0, none⟩) m c') m M) (h63 : m ≤ 1000) (hbase : base ≤ w.heap.size)
    (h : ∀ g2 c2 w', OwnR w' base (.slice (some ⟨g2, 0, none⟩) m c2) m M → w.grownBy w' (some g) → wpList Tryd.prog ops Q rest (a.put o.dst (.slice (some ⟨g2, 0, none⟩) m c2)) w') :
    wpList Tryd.prog ops Q (o :: rest) a w :=
  wpList_append_r w hgd s x ho base g 0 c [] hs hown base' g' m c' M hx hr (by omega) hbase (fun g2 c2 w' h1 h2 => by
    rw [Nat.zero_add] at h1 ⊢
    exact h g2 c2 w' h1 h2)
theorem OwnR.stays {w w' : World} {base g n c b : Nat} {L : List (Nat × Nat)} (h : OwnR w base (.slice (some ⟨g, 0, none⟩) n c) n L) (hg : w.grownBy w' (some b)) (hne : g ≠ b) : OwnR w' base (.slice (some ⟨g, 0, none⟩) n c) n L :=
  World.ownsRow.kept h hg (Or.inr (by simpa [Value.ownBlock] using hne))
theorem PrL.bd {L : List (Nat × Nat)} (h : PrL L) (hv : ∀ x ∈ L, x.2 < x.1) : ∀ x ∈ L, x.1 < 18446744073709551616 ∧ x.2 < 18446744073709551616 := fun x hx => by
  have h1 := h.lt x hx
  have h2 := hv x hx
  omega
theorem mem_snoc {L : List (Nat × Nat)} {y : Nat × Nat} {p : Nat × Nat → Prop} (h : ∀ x ∈ L, p x) (hy : p y) : ∀ x ∈ L ++ [y], p x := fun x hx => by
  rcases List.mem_append.1 hx with h1 | h1
  · exact h x h1
  · obtain rfl := List.mem_singleton.1 h1
    exact hy
/-- What Made returns: a valid list of at most N residues of known primes. -/
def RetMd (w : World) (N : Nat) (e : Ending) (w' : World) : Prop := ∃ g n c L, e = .returned (.slice (some ⟨g, 0, none⟩) n c) ∧ OwnR w' w.heap.size (.slice (some ⟨g, 0, none⟩) n c) n L ∧ n ≤ N ∧ Below w.heap.size w w' ∧ Hid (OkR L ∧ PrL L)
set_option maxRecDepth 100000 in
theorem sq18 : ∀ p ∈ primes18, primeF (p * p) = false := by
  intro p hp
  simp only [primes18, List.mem_cons, List.not_mem_nil, or_false] at hp
  rcases hp with rfl | rfl | rfl | rfl | rfl | rfl | rfl | rfl | rfl | rfl | rfl | rfl | rfl | rfl | rfl | rfl | rfl | rfl <;> (rw [primeF_eq]; kernel_rfl)
/-- The squares are not taken for primes. -/
def SqL (L : List (Nat × Nat)) : Prop := ∀ x ∈ L, primeF (x.1 * x.1) = false
def RetMs (w : World) (N : Nat) (e : Ending) (w' : World) : Prop := ∃ g n c L, e = .returned (.slice (some ⟨g, 0, none⟩) n c) ∧ OwnR w' w.heap.size (.slice (some ⟨g, 0, none⟩) n c) n L ∧ n ≤ N ∧ Below w.heap.size w w' ∧ Hid ((OkR L ∧ PrL L) ∧ SqL L)
set_option maxRecDepth 100000 in
set_option maxHeartbeats 4000000 in
theorem rmade_s (A : Option Addr) (n c N : Nat) (w : World) (h : RawsL w A n) (hN : N ≤ 10) :
    Calls Tryd.prog 11 #[.slice A n c, .int .i64 (N : Int)] w (RetMs w N) := by
  have E0 := OwnR.empty w w.heap.size (Nat.le_refl _)
  have B0 := (Below.refl w.heap.size w).alloc (Nat.le_refl _) (.cells #[] 41)
  have HR := Lib.hid h
  clear h
  go_enter Tryd.func11, Tryd.ntmps11
  go_wp2_with fail
  go_loopw [5, 6] (fun s5 s6 wr => ∃ k m g co : Nat, ∃ L, s5 = .slice (some ⟨g, 0, none⟩) m co ∧ s6 = .int .i64 (k : Int) ∧ k ≤ N ∧ m ≤ k ∧ OwnR wr w.heap.size (.slice (some ⟨g, 0, none⟩) m co) m L ∧ Below w.heap.size w wr ∧ Hid ((OkR L ∧ PrL L) ∧ SqL L)) (fun _ s6 _ => N - (intOf s6).toNat)
  case atStart => exact ⟨0, 0, w.heap.size, 0, [], rfl, rfl, Nat.zero_le _, Nat.le_refl _, E0, B0, ⟨okR_nil, fun x hx => absurd hx List.not_mem_nil⟩, fun x hx => absurd hx List.not_mem_nil⟩
  case round =>
    clear E0 B0
    obtain ⟨k, m, g, co, L, rfl, rfl, hkN, hmk, O, B, hL⟩ := hrel
    rcases Nat.lt_or_ge k n with hkn | hkn
    case' inr =>
      go_wp2_with fail
      go_ret
      exact ⟨g, m, co, L, rfl, O, by omega, B, hL⟩
    rcases Nat.lt_or_ge k N with hkN2 | hkN2
    case' inr =>
      go_wp2_with fail
      go_ret
      exact ⟨g, m, co, L, rfl, O, by omega, B, hL⟩
    obtain ⟨b, q0, rfl, hb, hc⟩ := HR.out (by omega)
    obtain ⟨p, v, hp, hv, c0, c1⟩ := hc k hkn
    obtain ⟨j, hje⟩ : ∃ j, p % 18 = j := ⟨_, rfl⟩
    have hj : j < 18 := by rw [← hje]; exact Nat.mod_lt _ (by decide)
    have hji : (j : Int) < 18 := by omega
    have hwp : IntKind.i64.wrap (p : Int) = (p : Int) := by rw [IntKind.wrap_i64]; omega
    have htm : (p : Int).tmod 18 = (j : Int) := by rw [Int.tmod_eq_emod_of_nonneg (by omega)]; omega
    obtain ⟨q, hq⟩ : ∃ q, primes18.getD j 0 = q := ⟨_, rfl⟩
    have hmem : q ∈ primes18 := by
      rw [← hq, List.getD_eq_getElem?_getD, List.getElem?_eq_getElem (show j < primes18.length from hj)]
      exact List.getElem_mem _
    have HQ := Lib.hid (primes18_prime q hmem)
    have HSq := Lib.hid (sq18 q hmem)
    have hq2 := (primeF_lt HQ.out.2).2
    have hql := (primeF_lt HQ.out.2).1
    clear hc hmem
    go_upto_region 5 with (fail)
    have HS : Hid (∀ V, Below wr.heap.size wr V → V.cell? ⟨b, q0 + k * 2, none⟩ = some (.int .u8 (p : Int))) := fun V hV => ((B.trans (hV.mono B.size)).cell (p := ⟨b, q0 + k * 2, none⟩) hb).trans c0
    have Dx : Below wr.heap.size wr wr.drew := (Below.refl _ _).drew
    refine wp_region_seq (.pre [(1, true), (2, true), (3, true), (4, true), (5, true), (6, true), (7, true), (0, false), (8, true), (9, false), (10, true)] .done) (fun W => W.cell? ⟨b, q0 + k * 2, none⟩ = some (.int .u8 (p : Int))) (by kernel_rfl) (by kernel_rfl) ?_ (by kernel_rfl) (HS.out _ Dx) ?_
    · refine chk_pre _ _ _ (by as_aux_lemma => kernel_rfl) ?_
      exact (by as_aux_lemma => kernel_rfl)
    refine seq_take _ ?_ rfl (Or.inl ⟨by rfl, ?_⟩) ?_
    rotate_left
    · (intro w hSw; (try dsimp only at hSw); go_simp; (try with_reducible rfl))
    try simp only [Act.put, List.setIfInBounds_toArray, List.set_cons_zero, List.set_cons_succ]
    refine seq_take _ ?_ rfl (Or.inl ⟨by rfl, ?_⟩) ?_
    rotate_left
    · (intro w hSw; (try dsimp only at hSw); go_simp; (try with_reducible rfl))
    try simp only [Act.put, List.setIfInBounds_toArray, List.set_cons_zero, List.set_cons_succ]
    refine seq_take _ ?_ rfl (Or.inl ⟨by rfl, ?_⟩) ?_
    rotate_left
    · (intro w hSw; (try dsimp only at hSw); go_simp; (try with_reducible rfl))
    try simp only [Act.put, List.setIfInBounds_toArray, List.set_cons_zero, List.set_cons_succ]
    refine seq_take _ ?_ rfl (Or.inl ⟨by rfl, ?_⟩) ?_
    rotate_left
    · (intro w hSw; (try dsimp only at hSw); go_simp; (try with_reducible rfl))
    try simp only [Act.put, List.setIfInBounds_toArray, List.set_cons_zero, List.set_cons_succ]
    refine seq_take _ ?_ rfl (Or.inl ⟨by rfl, ?_⟩) ?_
    rotate_left
    · (intro w hSw; (try dsimp only at hSw); go_simp; (try with_reducible rfl))
    try simp only [Act.put, List.setIfInBounds_toArray, List.set_cons_zero, List.set_cons_succ]
    refine seq_take _ ?_ rfl (Or.inl ⟨by rfl, ?_⟩) ?_
    rotate_left
    · (intro w hSw; (try dsimp only at hSw); go_simp; (try with_reducible rfl))
    try simp only [Act.put, List.setIfInBounds_toArray, List.set_cons_zero, List.set_cons_succ]
    refine seq_take _ ?_ rfl (Or.inl ⟨by rfl, ?_⟩) ?_
    rotate_left
    · (intro w hSw; (try dsimp only at hSw); go_simp; (try with_reducible rfl))
    try simp only [Act.put, List.setIfInBounds_toArray, List.set_cons_zero, List.set_cons_succ]
    refine seq_one _ rfl fun K hK => ?_
    go_simp
    (with_reducible refine (some_z _).mono ?_)
    rintro e vx0 ⟨bs, rfl, hbs, bx0⟩
    replace Dx : Below wr.heap.size wr vx0 := Below.trans Dx (bx0.mono (Below.size Dx))
    clear bx0
    go_wp2_with fail
    refine hK.out _ _ (HS.out _ Dx) (fun hHeld => ?_)
    clear hK K hHeld
    try simp only [Act.put, List.setIfInBounds_toArray, List.set_cons_zero, List.set_cons_succ]
    refine seq_take _ ?_ rfl (Or.inl ⟨by rfl, ?_⟩) ?_
    rotate_left
    · (intro w hSw; (try dsimp only at hSw); go_simp; (try with_reducible rfl))
    try simp only [Act.put, List.setIfInBounds_toArray, List.set_cons_zero, List.set_cons_succ]
    have cs := hbs j hj
    rw [hq] at cs
    clear hbs
    refine seq_one _ rfl fun K hK => ?_
    go_simp
    refine hK.out _ _ (HS.out _ Dx) (fun hHeld => ?_)
    clear hK K hHeld
    try simp only [Act.put, List.setIfInBounds_toArray, List.set_cons_zero, List.set_cons_succ]
    refine seq_take _ ?_ rfl (Or.inl ⟨by rfl, ?_⟩) ?_
    rotate_left
    · (intro w hSw; (try dsimp only at hSw); go_simp; (try with_reducible rfl))
    try simp only [Act.put, List.setIfInBounds_toArray, List.set_cons_zero, List.set_cons_succ]
    refine NoPanic.normal ?_
    replace O := O.keep Dx
    replace B := B.trans (Dx.mono B.size)
    generalize vx0 = W5 at *
    clear Dx HS cs hji htm hwp hq hje
    have hgl : g < W5.heap.size := (World.ownsRow.lt O g rfl).2
    have e5 := OwnR.empty W5 W5.heap.size (Nat.le_refl _)
    have a5 := (Below.refl W5.heap.size W5).alloc (Nat.le_refl _) (.cells #[] 41)
    have O5 := O.keep a5
    have B5 := B.trans (a5.mono B.size)
    have c1v := c1
    have hq0 : ((q : Int) == 0) = false := by simp; omega
    have hwv : IntKind.u64.wrap (v : Int) = (v : Int) := by rw [IntKind.wrap_u64]; omega
    obtain ⟨r, hr⟩ : ∃ r, v % q = r := ⟨_, rfl⟩
    have hrv : (v : Int) % (q : Int) = (r : Int) := by rw [← hr, Int.natCast_emod]
    have hrq : r < q := by rw [← hr]; exact Nat.mod_lt _ (by omega)
    go_wp2_with (first
      | (at_builtin; refine wpList_copy_r _ rfl (.tmp 31) (.tmp 32) rfl W5.heap.size W5.heap.size 0 rfl e5 w.heap.size g m co L rfl O5 (by omega) a5.size ?_; intro g2 c2 w6 O6 hg6; have B6 : Below w.heap.size w w6 := B5.grown hg6 B5.size (fun j hj => by cases hj; exact B.size); have c1w := (B6.cell (p := ⟨b, q0 + k * 2 + 1, none⟩) hb).trans c1; have P6 := O5.stays hg6 (by omega))
      | (at_builtin; refine wpList_append_r _ rfl (.tmp 34) (.tmp 45) rfl W5.heap.size g2 m c2 L rfl (O6.keep ((Below.refl _ _).alloc (Nat.le_refl _) _)) w6.heap.size w6.heap.size 1 1 [(q, r)] rfl (OwnR.one w6 w6.heap.size q r (Nat.le_refl _)) (by omega) (by have := hg6.size; simp at this ⊢; omega) ?_; intro g3 c3 w7 O7 hg7))
    have l2 := (World.ownsRow.lt O6 g2 rfl).1
    have a7 := (Below.refl w6.heap.size w6).alloc (Nat.le_refl _) (.cells #[.int .u64 (q : Int), .int .u64 (r : Int)] 41)
    have s6 := hg6.size
    rw [World.size_alloc] at s6
    have sB := B.size
    have B7 : Below w.heap.size w w7 := (B6.trans (a7.mono B6.size)).grown hg7 (by simp; omega) (fun j hj => by cases hj; omega)
    have P7 := (P6.keep a7).stays hg7 (by omega)
    have HPL : PrL (L ++ [(q, r)]) := mem_snoc hL.out.1.2 HQ.out
    have HVB : ∀ x ∈ L ++ [(q, r)], x.2 < x.1 := mem_snoc (fun x hx => (hL.out.1.1.bound x hx).1) hrq
    have HV := Lib.hid (rvalid4_z (some ⟨g3, 0, none⟩) (m + 1) c3 _ _ (O7.resL (HPL.bd HVB)) (by omega) HPL)
    have HPL' := Lib.hid HPL
    clear HPL HVB P6 a7 O5 e5 a5 c0 c1 c1v c1w hr hrv hwv hq0
    (with_reducible refine HV.out.mono ?_)
    rintro e w8 ⟨vv, rfl, b8, hv8⟩
    replace P7 := P7.keep b8
    replace O7 := (O7.keep b8).mono (base' := w.heap.size) (by omega)
    replace B7 := B7.trans (b8.mono B7.size)
    clear b8 HV B O
    cases vv with
    | true =>
      go_wp2_with fail
      go_roundw
      case rel => exact ⟨k + 1, m + 1, g3, c3, L ++ [(q, r)], rfl, by go_num, by omega, by omega, O7, B7, ⟨hv8.out.1 (by first | rfl | trivial), HPL'.out⟩, mem_snoc hL.out.2 HSq.out⟩
      case measure => simp [intOf]; omega
    | false =>
      go_wp2_with fail
      go_roundw
      case rel => exact ⟨k + 1, m, g, co, L, rfl, by go_num, by omega, by omega, P7, B7, hL⟩
      case measure => simp [intOf]; omega
theorem rmade_z (A : Option Addr) (n c N : Nat) (w : World) (h : RawsL w A n) (hN : N ≤ 10) :
    Calls Tryd.prog 11 #[.slice A n c, .int .i64 (N : Int)] w (RetMd w N) :=
  (rmade_s A n c N w h hN).mono (by rintro e w' ⟨g, n, c, L, h1, h2, h3, h4, h5⟩; exact ⟨g, n, c, L, h1, h2, h3, h4, h5.out.1⟩)
end Go.Proofs.YtclmenpclkmfeaaDoor
