/- Contracts of torsionref04.Some and Made; rows of residues of the call's own. -/
import Derived.Test.YtclmenpclkmfeaaDoorVCrtU
import Derived.Test.YtclmenpclkmfeaaDoorVG29CrtL
namespace Go.Proofs.YtclmenpclkmfeaaDoor
open Go.RowKit Go.Maps
def primes18 : List Nat := [2, 3, 5, 7, 11, 13, 17, 19, 23, 29, 31, 37, 41, 43, 47, 65537, 2147483629, 2147483647]
set_option maxRecDepth 100000 in
theorem primes18_prime : ∀ p ∈ primes18, IsPrime p ∧ primeF p = true := by
  intro p hp
  simp only [primes18, List.mem_cons, List.not_mem_nil, or_false] at hp
  rcases hp with rfl | rfl | rfl | rfl | rfl | rfl | rfl | rfl | rfl | rfl | rfl | rfl | rfl | rfl | rfl | rfl | rfl | rfl
  · exact ⟨prime2, pf_2⟩
  · exact ⟨prime_of 2 (by decide) (by decide) (by decide) (by kernel_rfl), by rw [primeF_eq]; kernel_rfl⟩
  · exact ⟨prime_of 2 (by decide) (by decide) (by decide) (by kernel_rfl), by rw [primeF_eq]; kernel_rfl⟩
  · exact ⟨prime_of 2 (by decide) (by decide) (by decide) (by kernel_rfl), by rw [primeF_eq]; kernel_rfl⟩
  · exact ⟨prime_of 2 (by decide) (by decide) (by decide) (by kernel_rfl), by rw [primeF_eq]; kernel_rfl⟩
  · exact ⟨prime_of 2 (by decide) (by decide) (by decide) (by kernel_rfl), by rw [primeF_eq]; kernel_rfl⟩
  · exact ⟨prime_of 2 (by decide) (by decide) (by decide) (by kernel_rfl), by rw [primeF_eq]; kernel_rfl⟩
  · exact ⟨prime_of 2 (by decide) (by decide) (by decide) (by kernel_rfl), by rw [primeF_eq]; kernel_rfl⟩
  · exact ⟨prime_of 2 (by decide) (by decide) (by decide) (by kernel_rfl), by rw [primeF_eq]; kernel_rfl⟩
  · exact ⟨prime_of 2 (by decide) (by decide) (by decide) (by kernel_rfl), by rw [primeF_eq]; kernel_rfl⟩
  · exact ⟨prime_of 2 (by decide) (by decide) (by decide) (by kernel_rfl), by rw [primeF_eq]; kernel_rfl⟩
  · exact ⟨prime_of 2 (by decide) (by decide) (by decide) (by kernel_rfl), by rw [primeF_eq]; kernel_rfl⟩
  · exact ⟨prime_of 2 (by decide) (by decide) (by decide) (by kernel_rfl), by rw [primeF_eq]; kernel_rfl⟩
  · exact ⟨prime_of 2 (by decide) (by decide) (by decide) (by kernel_rfl), by rw [primeF_eq]; kernel_rfl⟩
  · exact ⟨prime_of 2 (by decide) (by decide) (by decide) (by kernel_rfl), by rw [primeF_eq]; kernel_rfl⟩
  · exact ⟨prime_of 7 (by decide) (by decide) (by decide) (by kernel_rfl), by rw [primeF_eq]; kernel_rfl⟩
  · exact ⟨prime_of 15 (by decide) (by decide) (by decide) (by kernel_rfl), by rw [primeF_eq]; kernel_rfl⟩
  · exact ⟨prime_of 15 (by decide) (by decide) (by decide) (by kernel_rfl), by rw [primeF_eq]; kernel_rfl⟩
set_option maxHeartbeats 400000 in
theorem some_z (w : World) :
    Calls Tryd.prog 39 #[] w fun e w' => ∃ b, e = .returned (.slice (some ⟨b, 0, none⟩) 18 18) ∧ (∀ j, j < 18 → w'.cell? ⟨b, j, none⟩ = some (.int .u64 ((primes18.getD j 0 : Nat) : Int))) ∧ Below w.heap.size w w' := by
  go_enter Tryd.func39, Tryd.ntmps39
  go_wp2_with fail
  go_ret
  refine ⟨w.heap.size, rfl, fun j hj => ?_, (Below.refl _ _).alloc (Nat.le_refl _) _⟩
  have hjs : j = 0 ∨ j = 1 ∨ j = 2 ∨ j = 3 ∨ j = 4 ∨ j = 5 ∨ j = 6 ∨ j = 7 ∨ j = 8 ∨ j = 9 ∨ j = 10 ∨ j = 11 ∨ j = 12 ∨ j = 13 ∨ j = 14 ∨ j = 15 ∨ j = 16 ∨ j = 17 := by omega
  rcases hjs with rfl | rfl | rfl | rfl | rfl | rfl | rfl | rfl | rfl | rfl | rfl | rfl | rfl | rfl | rfl | rfl | rfl | rfl <;> simp [primes18]
/-- The cells of a list of residues. -/
def flatR : List (Nat × Nat) → List Value
  | [] => []
  | x :: l => .int .u64 (x.1 : Int) :: .int .u64 (x.2 : Int) :: flatR l
theorem flatR_len : ∀ L, (flatR L).length = L.length * 2
  | [] => rfl
  | x :: l => by simp [flatR, flatR_len l]; omega
theorem flatR_app : ∀ L L', flatR (L ++ L') = flatR L ++ flatR L'
  | [], _ => rfl
  | x :: l, L' => by simp [flatR, flatR_app l L']
theorem flatR_get : ∀ (L : List (Nat × Nat)) (k : Nat), k < L.length → (flatR L)[k * 2]? = some (.int .u64 ((L.getD k (0, 0)).1 : Int)) ∧ (flatR L)[k * 2 + 1]? = some (.int .u64 ((L.getD k (0, 0)).2 : Int))
  | [], k, h => absurd h (by simp)
  | x :: l, 0, _ => ⟨rfl, rfl⟩
  | x :: l, k + 1, h => by
    have := flatR_get l k (by simpa using h)
    rw [show (k + 1) * 2 = k * 2 + 1 + 1 by omega]
    simpa [flatR] using this
theorem flatR_one : ∀ L, ∀ u ∈ flatR L, u.oneCell' = true
  | [], u, h => by cases h
  | x :: l, u, h => by
    rcases List.mem_cons.1 h with rfl | h
    · rfl
    · rcases List.mem_cons.1 h with rfl | h
      · rfl
      · exact flatR_one l u h
/-- A row of residues of the call's own. -/
def OwnR (w : World) (base : Nat) (v : Value) (n : Nat) (L : List (Nat × Nat)) : Prop := w.ownsRow base 41 2 v n (flatR L)
theorem OwnR.resL {w : World} {base g n c : Nat} {L : List (Nat × Nat)} (h : OwnR w base (.slice (some ⟨g, 0, none⟩) n c) n L) (hb : ∀ x ∈ L, x.1 < 18446744073709551616 ∧ x.2 < 18446744073709551616) : ResL w (some ⟨g, 0, none⟩) n L := by
  have hl := h.1
  rw [flatR_len] at hl
  have hlt := (World.ownsRow.lt h g rfl).2
  refine ⟨by omega, hb, fun _ => ⟨g, 0, rfl, hlt, fun k hk => ?_⟩⟩
  have e := flatR_get L k (by omega)
  have c0 := World.ownsRow.cells h (g := g) rfl _ _ e.1
  have c1 := World.ownsRow.cells h (g := g) rfl _ _ e.2
  rw [Addr.add_lit] at c0 c1
  exact ⟨c0, c1⟩
theorem OwnR.keep {w w' : World} {base : Nat} {v : Value} {n : Nat} {L : List (Nat × Nat)} (h : OwnR w base v n L) (hb : Below w.heap.size w w') : OwnR w' base v n L := by
  refine ⟨h.1, ?_⟩
  rcases h.2 with hn | ⟨g, cap, cur, rfl, hg, hgg, rest⟩
  · exact .inl hn
  · exact .inr ⟨g, cap, cur, rfl, hg, by rw [hb.block g (Array.getElem?_eq_some_iff.1 hgg).1]; exact hgg, rest⟩
theorem OwnR.mono {w : World} {base base' : Nat} {v : Value} {n : Nat} {L : List (Nat × Nat)} (h : OwnR w base v n L) (hb : base' ≤ base) : OwnR w base' v n L := by
  refine ⟨h.1, ?_⟩
  rcases h.2 with hn | ⟨g, cap, cur, rfl, hg, rest⟩
  · exact .inl hn
  · exact .inr ⟨g, cap, cur, rfl, Nat.le_trans hb hg, rest⟩
theorem OwnR.empty (w : World) (base : Nat) (hb : base ≤ w.heap.size) : OwnR (w.alloc (.cells #[] 41)) base (.slice (some ⟨w.heap.size, 0, none⟩) 0 0) 0 [] :=
  ⟨rfl, .inr ⟨_, 0, #[], rfl, hb, heap_alloc_new w _, Nat.le_refl _, Nat.zero_le _, rfl, rfl⟩⟩
theorem OwnR.one (w : World) (base p v : Nat) (hb : base ≤ w.heap.size) : OwnR (w.alloc (.cells #[.int .u64 (p : Int), .int .u64 (v : Int)] 41)) base (.slice (some ⟨w.heap.size, 0, none⟩) 1 1) 1 [(p, v)] :=
  ⟨rfl, .inr ⟨_, 1, #[.int .u64 (p : Int), .int .u64 (v : Int)], rfl, hb, heap_alloc_new w _, Nat.le_refl _, by unfold maxLen; omega, rfl, rfl⟩⟩
theorem infoRes : (Tryd.prog.info? 41).map (fun i => (i.size, i.bytes)) = some (2, 16) := by kernel_rfl
theorem info_partsR : ∃ i z, Tryd.prog.info? 41 = some i ∧ i.zero = some z ∧ i.size = 2 ∧ i.bytes = 16 ∧ z.cells.size = 2 := by
  have h : (Tryd.prog.info? 41).map (fun i => (i.zero.map fun z => z.cells.size, i.size, i.bytes)) = some (some 2, 2, 16) := by kernel_rfl
  cases hq : Tryd.prog.info? 41 with
  | none => rw [hq] at h; cases h
  | some i =>
    rw [hq] at h
    simp only [Option.map_some, Option.some.injEq, Prod.mk.injEq] at h
    obtain ⟨h1, h2, h3⟩ := h
    cases hz : i.zero with
    | none => rw [hz] at h1; cases h1
    | some z =>
      rw [hz] at h1
      exact ⟨i, z, rfl, hz, h2, h3, by simpa using h1⟩
/-- Residues appended to a row of the call's own. -/
theorem wpList_append_r {ops : Array Oper} {rest : List Oper} {o : Oper} {a : Act} {Q : Exit → Act → World → Prop} (w : World) (hgd : o.guard = none) (s x : Operand)
    (ho : o.op = .call { callee := .builtin .append, args := #[s, x], argTypes := #[24, 24] })
    (base g n c : Nat) (L : List (Nat × Nat)) (hs : a.eval s = .slice (some ⟨g, 0, none⟩) n c) (hown : OwnR w base (.slice (some ⟨g, 0, none⟩) n c) n L)
    (base' g' m c' : Nat) (M : List (Nat × Nat)) (hx : a.eval x = .slice (some ⟨g', 0, none⟩) m c') (hr : OwnR w base' (.slice (some ⟨g', 0, none⟩) m c') m M) (h63 : n + m ≤ 1000) (hbase : base ≤ w.heap.size)
    (h : ∀ g2 c2 w', OwnR w' base (.slice (some ⟨g2, 0, none⟩) (n + m) c2) (n + m) (L ++ M) → w.grownBy w' (some g) → wpList Tryd.prog ops Q rest (a.put o.dst (.slice (some ⟨g2, 0, none⟩) (n + m) c2)) w') :
    wpList Tryd.prog ops Q (o :: rest) a w := by
  obtain ⟨i0, z, hi, hz0, hz1, hz2, hz3⟩ := info_partsR
  refine wpList_append_own w hgd s x 24 ho base 41 i0 z 2 16 Tryd.underlying24 hi hz0 hz1 hz2 hz3 (by decide) _ n _ hs hown ⟨g', 0, none⟩ m c' (flatR M) hx hr.1 (fun j u hj => World.ownsRow.cells hr (g := g') rfl j u hj) (flatR_one M) (by unfold maxLen; omega) (by omega) hbase (fun v' w' h1 h2 h3 => ?_)
  rw [← flatR_app] at h1
  rcases h1.2 with ⟨rfl, _⟩ | ⟨g2, cap, cur, rfl, hrest⟩
  · have := (h3.1 rfl).1
    cases this
  · exact h g2 cap w' ⟨h1.1, .inr ⟨g2, cap, cur, rfl, hrest⟩⟩ h2
/-- Raw residues: a number of a byte and one of 32 bits. -/
def RawsL (w : World) (A : Option Addr) (n : Nat) : Prop := 0 < n → ∃ b o, A = some ⟨b, o, none⟩ ∧ b < w.heap.size ∧ ∀ k, k < n → ∃ p v : Nat, p < 256 ∧ v < 4294967296 ∧ w.cell? ⟨b, o + k * 2, none⟩ = some (.int .u8 (p : Int)) ∧ w.cell? ⟨b, o + k * 2 + 1, none⟩ = some (.int .u32 (v : Int))
theorem RawsL.below {w w' : World} {A : Option Addr} {n : Nat} (h : RawsL w A n) (hb : Below w.heap.size w w') : RawsL w' A n := fun h0 => by
  obtain ⟨b, o, e, hl, hc⟩ := h h0
  refine ⟨b, o, e, Nat.lt_of_lt_of_le hl hb.size, fun k hk => ?_⟩
  obtain ⟨p, v, h1, h2, h3, h4⟩ := hc k hk
  exact ⟨p, v, h1, h2, (hb.cell (p := ⟨b, _, none⟩) hl).trans h3, (hb.cell (p := ⟨b, _, none⟩) hl).trans h4⟩
end Go.Proofs.YtclmenpclkmfeaaDoor
