/- Words for memory that the contracts of this seat use: a slice of limbs that reads as a list of natural numbers. Conditions: none. Plain mathematics of limbs: the value of a list of limbs, comparison. Conditions: as each lemma states. Contracts of integer.trim and torsionref01.less. Words for memory that a call makes: owned rows of limbs, appends, integers as values. Plain mathematics of integers: quotient and remainder by sizes and signs. Contracts of integer.tidy, build, ofWord, Of, Abs, Neg, Clone and the like. Contracts of slices.Clone, integer.ofWord, word, words. Contracts of integer.ofWord. Contracts of integer.Of, Neg, Abs, withSign. -/
import Derived.Test.YtclmenpclkmfeaaDoorRows
import Derived.WalkKit
import Derived.WalkSpells
import Derived.WalkLawsBesides
import Derived.Lib.Hide
import Derived.Deep.QuietTactic
import Derived.BigQuiet
import Derived.Deep.Draws
import Derived.Deep.LoopGhost
import Derived.Deep.RegionHeld3
import Derived.KernelRfl
import Derived.Maps.AppendAt
import Derived.Laws.AppendOwnNone
namespace Go.Proofs.YtclmenpclkmfeaaDoor
open Go.RowKit

theorem block_of_add (a : Addr) (n : Nat) : (a.add n).block = a.block := by unfold Addr.add; split <;> rfl
theorem add_of_add (a : Addr) (i j : Nat) : (a.add i).add j = a.add (i + j) := by
  unfold Addr.add
  by_cases hi : i = 0 <;> by_cases hj : j = 0 <;> simp [hi, hj, Nat.add_assoc]

/-- The slice value at A with n limbs reads as the list xs of natural numbers, below block B. -/
structure Lim (w : World) (B : Nat) (A : Option Addr) (n c : Nat) (xs : List Nat) : Prop where
  cap : n ≤ c ∧ c ≤ 9223372036854775807
  len : xs.length = n
  lt : ∀ x ∈ xs, x < 4294967296
  rd : 0 < n → ∃ ad, A = some ad ∧ ad.block < B ∧ ∀ k, k < n → w.cell? (ad.add k) = some (.int .u32 ((xs.getD k 0 : Nat) : Int))

section
variable {w w' : World} {B B' n c : Nat} {A : Option Addr} {xs : List Nat}
theorem Lim.none_ (hc : c ≤ 9223372036854775807) : Lim w B A 0 c [] := ⟨⟨by omega, hc⟩, rfl, by simp, fun h => absurd h (by omega)⟩
theorem Lim.getD_lt (h : Lim w B A n c xs) (k : Nat) : xs.getD k 0 < 4294967296 := by
  rcases Nat.lt_or_ge k xs.length with hk | hk
  · rw [List.getD_eq_getElem?_getD, List.getElem?_eq_getElem hk]; exact h.lt _ (List.getElem_mem hk)
  · rw [List.getD_eq_getElem?_getD, List.getElem?_eq_none hk]; simp
theorem Lim.at_ {k : Nat} (h : Lim w B A n c xs) (hk : k < n) : ∃ ad, A = some ad ∧ ad.block < B ∧ ∃ x : Nat, Hid (x = xs.getD k 0) ∧ x < 4294967296 ∧ w.cell? (ad.add k) = some (.int .u32 (x : Int)) := by
  obtain ⟨ad, e, hb, hc⟩ := h.rd (by omega)
  exact ⟨ad, e, hb, _, rfl, h.getD_lt k, hc k hk⟩
theorem Lim.keep (h : Lim w B A n c xs) (hk : ∀ p : Addr, p.block < B → w'.cell? p = w.cell? p) : Lim w' B A n c xs :=
  ⟨h.cap, h.len, h.lt, fun hn => by
    obtain ⟨ad, e, hb, hc⟩ := h.rd hn
    exact ⟨ad, e, hb, fun k hkn => (hk _ (by rw [block_of_add]; exact hb)).trans (hc k hkn)⟩⟩
theorem Lim.more (h : Lim w B A n c xs) (hB : B ≤ B') : Lim w B' A n c xs :=
  ⟨h.cap, h.len, h.lt, fun hn => by
    obtain ⟨ad, e, hb, hc⟩ := h.rd hn
    exact ⟨ad, e, by omega, hc⟩⟩
theorem Lim.below (h : Lim w B A n c xs) (hb : Below B w w') : Lim w' B A n c xs := h.keep fun _ hp => hb.cell hp
theorem Lim.drew (h : Lim w B A n c xs) : Lim w.drew B A n c xs := ⟨h.cap, h.len, h.lt, h.rd⟩
theorem Lim.drewN (h : Lim w B A n c xs) (k : Nat) : Lim (w.drewN k) B A n c xs := ⟨h.cap, h.len, h.lt, h.rd⟩
theorem Lim.alloc (h : Lim w B A n c xs) (hB : B ≤ w.heap.size) (o : Obj) : Lim (w.alloc o) B A n c xs := h.keep fun p hp => World.cell?_alloc_lt w o p (by omega)
theorem Lim.setCell (h : Lim w B A n c xs) {p : Addr} (hB : B ≤ p.block) (u : Value) : Lim (w.setCell p u) B A n c xs :=
  h.keep fun q hq => World.cell?_setCell_other w p q u (fun e => by subst e; omega)
end

/-- The world wr is w but for draws. -/
def Drawn (w wr : World) : Prop := ∃ q, wr = w.drewN q
theorem Drawn.refl (w : World) : Drawn w w := ⟨0, rfl⟩
theorem Drawn.drewN {w wr : World} (h : Drawn w wr) (n : Nat) : Drawn w (wr.drewN n) := by
  obtain ⟨q, rfl⟩ := h
  exact ⟨q + n, World.drewN_drewN ..⟩
theorem Drawn.drew {w wr : World} (h : Drawn w wr) : Drawn w wr.drew := h.drewN 1
theorem Drawn.trans {a b c : World} (h : Drawn a b) (k : Drawn b c) : Drawn a c := by
  obtain ⟨q, rfl⟩ := k
  exact h.drewN q
theorem Drawn.cell {w wr : World} (h : Drawn w wr) (p : Addr) : wr.cell? p = w.cell? p := by
  obtain ⟨q, rfl⟩ := h; rfl
theorem Drawn.frozen {w wr : World} (h : Drawn w wr) (p : Addr) : wr.frozen? p = w.frozen? p := by
  obtain ⟨q, rfl⟩ := h; rfl
theorem Drawn.size {w wr : World} (h : Drawn w wr) : wr.heap.size = w.heap.size := by
  obtain ⟨q, rfl⟩ := h; rfl
theorem Drawn.below {w wr : World} (h : Drawn w wr) (B : Nat) : Below B w wr := by
  obtain ⟨q, rfl⟩ := h
  exact ⟨rfl, rfl, rfl, Nat.le_refl _, fun _ _ => rfl⟩
theorem Lim.drawn {w wr : World} {B n c : Nat} {A : Option Addr} {xs : List Nat} (h : Lim w B A n c xs) (hd : Drawn w wr) : Lim wr B A n c xs := by
  obtain ⟨q, rfl⟩ := hd
  exact h.drewN q
theorem Below.drewN' {B : Nat} {a w : World} (h : Below B a w) (n : Nat) : Below B a (w.drewN n) := ⟨h.os, h.tape, h.output, h.size, h.block⟩

/-- Cells and marks below a contract's world read as before: two rules for the walk. -/
theorem bcell {W w1 : World} {N : Nat} (hb : Below N W w1) : (∀ b o, b < N → w1.cell? ⟨b, o, none⟩ = W.cell? ⟨b, o, none⟩) ∧ (∀ b o, b < N → w1.frozen? ⟨b, o, none⟩ = W.frozen? ⟨b, o, none⟩) :=
  ⟨fun b o h => hb.cell (p := ⟨b, o, none⟩) h, fun b o h => hb.frozen (p := ⟨b, o, none⟩) h⟩
theorem retI {k : IntKind} {a b : Int} (h : a = b) : Ending.returned (.int k a) = .returned (.int k b) := by rw [h]
theorem retT {k : IntKind} {a b : Int} {v : Value} (h : a = b) : Ending.returned (.tuple #[.int k a, v]) = .returned (.tuple #[.int k b, v]) := by rw [h]
theorem or_limbs (x y : Nat) (hx : x < 4294967296) (hy : y < 4294967296) : bits .or .u64 ((y : Int) * 4294967296) (x : Int) = ((x + 4294967296 * y : Nat) : Int) := by
  have e : ((y : Int) * 4294967296) = ((y * 4294967296 : Nat) : Int) := by omega
  rw [e, u64_or_nat _ _ (by omega) (by omega)]
  have h := Nat.shiftLeft_add_eq_or_of_lt (i := 32) (b := x) (by omega) y
  rw [Nat.shiftLeft_eq] at h
  have h2 : y * 4294967296 ||| x = y * 4294967296 + x := by simpa using h.symm
  rw [h2]
  omega
theorem wrap_neg_wrap (n : Int) (h1 : -9223372036854775808 ≤ n) (h2 : n < 0) : IntKind.u64.wrap (-IntKind.u64.wrap n) = ((n.natAbs : Nat) : Int) := by
  rw [IntKind.wrap_u64, IntKind.wrap_u64]; omega
theorem retB {a b : Bool} (h : a = b) : Ending.returned (.bool a) = .returned (.bool b) := by rw [h]

/-- A quiet contract offered inside a quiet region. -/
theorem quietD {P : Program} {f : FuncId} {args : Array Value} {W : World} {n : Nat} {v : Value}
    (h : Calls P f args (W.drewN n) fun e w' => e = .returned v ∧ Drawn (W.drewN n) w') : Calls P f args (W.drewN n) fun e w'' => e = .returned v ∧ ∃ m, w'' = W.drewN m :=
  h.mono fun _ _ ⟨he, m, hm⟩ => ⟨he, n + m, by rw [hm, World.drewN_drewN]⟩
theorem quietDD {P : Program} {f : FuncId} {args : Array Value} {w : World} {a n : Nat} {v : Value}
    (h : Calls P f args (w.drewN (a + n)) fun e w' => e = .returned v ∧ Drawn (w.drewN (a + n)) w') : Calls P f args (w.drewN (a + n)) fun e w'' => e = .returned v ∧ ∃ m, w'' = w.drewN (a + m) :=
  h.mono fun _ _ ⟨he, m, hm⟩ => ⟨he, n + m, by rw [hm, World.drewN_drewN, Nat.add_assoc]⟩
end Go.Proofs.YtclmenpclkmfeaaDoor
namespace Go.Proofs.YtclmenpclkmfeaaDoor

/-- The comparison of two numbers as Go answers it. -/
def cmpN (a b : Int) : Int := if a < b then -1 else if b < a then 1 else 0

/-- The value of a list of limbs, the lowest first. -/
def val : List Nat → Nat
  | [] => 0
  | x :: xs => x + 4294967296 * val xs

def Limbs (xs : List Nat) : Prop := ∀ x ∈ xs, x < 4294967296

theorem val_lt : ∀ {xs : List Nat}, Limbs xs → val xs < 4294967296 ^ xs.length
  | [], _ => by simp [val]
  | x :: xs, h => by
    have h1 : x < 4294967296 := h x (by simp)
    have h2 := val_lt (xs := xs) fun y hy => h y (by simp [hy])
    simp only [val, List.length_cons, Nat.pow_succ]
    omega
theorem val_append : ∀ (xs ys : List Nat), val (xs ++ ys) = val xs + 4294967296 ^ xs.length * val ys
  | [], ys => by simp [val]
  | x :: xs, ys => by
    simp only [List.cons_append, val, val_append xs ys, List.length_cons, Nat.pow_succ, Nat.mul_add]
    rw [Nat.mul_comm (4294967296 ^ xs.length) 4294967296, Nat.mul_assoc]
    omega
theorem limbs_take {xs : List Nat} (h : Limbs xs) (k : Nat) : Limbs (xs.take k) := fun x hx => h x (List.mem_of_mem_take hx)
theorem limbs_drop {xs : List Nat} (h : Limbs xs) (k : Nat) : Limbs (xs.drop k) := fun x hx => h x (List.mem_of_mem_drop hx)
theorem getD_drop (xs : List Nat) (i k : Nat) : (xs.drop i).getD k 0 = xs.getD (i + k) 0 := by
  simp [List.getD_eq_getElem?_getD, List.getElem?_drop]
/-- Lists of one length that agree from place k + 1 on are ordered by place k. -/
theorem val_lt_of {xs ys : List Nat} (hx : Limbs xs) (_hy : Limbs ys) (hl : xs.length = ys.length) (k : Nat) (hk : k < xs.length) (hgt : ∀ j, k < j → j < xs.length → xs.getD j 0 = ys.getD j 0)
    (hlt : xs.getD k 0 < ys.getD k 0) : val xs < val ys := by
  have ex : xs = xs.take k ++ xs.getD k 0 :: xs.drop (k + 1) := by
    rw [List.getD_eq_getElem?_getD, List.getElem?_eq_getElem hk, Option.getD_some, ← List.drop_eq_getElem_cons, List.take_append_drop]
  have hk' : k < ys.length := by omega
  have ey : ys = ys.take k ++ ys.getD k 0 :: ys.drop (k + 1) := by
    rw [List.getD_eq_getElem?_getD, List.getElem?_eq_getElem hk', Option.getD_some, ← List.drop_eq_getElem_cons, List.take_append_drop]
  have ed : xs.drop (k + 1) = ys.drop (k + 1) := by
    apply List.ext_getElem?
    intro i
    rw [List.getElem?_drop, List.getElem?_drop]
    rcases Nat.lt_or_ge (k + 1 + i) xs.length with h | h
    · have := hgt (k + 1 + i) (by omega) h
      rw [List.getD_eq_getElem?_getD, List.getD_eq_getElem?_getD, List.getElem?_eq_getElem h, List.getElem?_eq_getElem (by omega : k + 1 + i < ys.length)] at this
      rw [List.getElem?_eq_getElem h, List.getElem?_eq_getElem (by omega : k + 1 + i < ys.length)]
      simpa using this
    · rw [List.getElem?_eq_none h, List.getElem?_eq_none (by omega)]
  have hv := val_lt (limbs_take hx k)
  rw [ex, ey, val_append, val_append, ed]
  have l1 : (xs.take k).length = k := by rw [List.length_take]; omega
  have l2 : (ys.take k).length = k := by rw [List.length_take]; omega
  rw [l1] at hv ⊢
  rw [l2]
  simp only [val]
  generalize xs.getD k 0 = a at *
  generalize ys.getD k 0 = b at *
  generalize val (ys.drop (k + 1)) = t
  generalize 4294967296 ^ k = P at *
  have h1 : P * (a + 1 + 4294967296 * t) ≤ P * (b + 4294967296 * t) := Nat.mul_le_mul_left _ (by omega)
  have h2 : P * (a + 1 + 4294967296 * t) = P * (a + 4294967296 * t) + P := by rw [← Nat.mul_succ]; congr 1; omega
  omega
theorem ext_getD {xs ys : List Nat} (hl : xs.length = ys.length) (h : ∀ j, j < xs.length → xs.getD j 0 = ys.getD j 0) : xs = ys := by
  apply List.ext_getElem hl
  intro i h1 h2
  have := h i h1
  rw [List.getD_eq_getElem?_getD, List.getD_eq_getElem?_getD, List.getElem?_eq_getElem h1, List.getElem?_eq_getElem h2] at this
  simpa using this
theorem cmpN_lt {a b : Int} (h : a < b) : cmpN a b = -1 := if_pos h
theorem cmpN_gt {a b : Int} (h : b < a) : cmpN a b = 1 := by unfold cmpN; rw [if_neg (by omega), if_pos h]
theorem cmpN_eq (a : Int) : cmpN a a = 0 := by unfold cmpN; rw [if_neg (by omega), if_neg (by omega)]
/-- What integer.order answers. -/
def ordV (xs ys : List Nat) : Int := if xs.length = ys.length then cmpN (val xs) (val ys) else cmpN xs.length ys.length
theorem ordV_at {xs ys : List Nat} (hx : Limbs xs) (hy : Limbs ys) (hl : xs.length = ys.length) (k : Nat) (hk : k < xs.length) (hgt : ∀ j, k < j → j < xs.length → xs.getD j 0 = ys.getD j 0)
    (hne : xs.getD k 0 ≠ ys.getD k 0) : ordV xs ys = cmpN (xs.getD k 0 : Nat) (ys.getD k 0 : Nat) := by
  unfold ordV
  rw [if_pos hl]
  rcases Nat.lt_or_gt_of_ne hne with h | h
  · rw [cmpN_lt (by exact_mod_cast val_lt_of hx hy hl k hk hgt h), cmpN_lt (by exact_mod_cast h)]
  · rw [cmpN_gt (by exact_mod_cast val_lt_of hy hx hl.symm k (by omega) (fun j h1 h2 => (hgt j h1 (by omega)).symm) h), cmpN_gt (by exact_mod_cast h)]
theorem ordV_eq {xs ys : List Nat} (hl : xs.length = ys.length) (h : ∀ j, j < xs.length → xs.getD j 0 = ys.getD j 0) : ordV xs ys = 0 := by
  rw [ext_getD hl h]; unfold ordV; rw [if_pos rfl, cmpN_eq]

/-- The limbs of a number, without a zero at the end. -/
def digs (n : Nat) : List Nat := if n = 0 then [] else n % 4294967296 :: digs (n / 4294967296)
  termination_by n
  decreasing_by omega
theorem digs_zero : digs 0 = [] := by rw [digs]; simp
theorem digs_pos {n : Nat} (h : 0 < n) : digs n = n % 4294967296 :: digs (n / 4294967296) := by
  rw [digs, if_neg (by omega)]
theorem val_digs (n : Nat) : val (digs n) = n := by
  induction n using Nat.strongRecOn with
  | ind n ih =>
    rcases Nat.eq_zero_or_pos n with h | h
    · subst h; rw [digs_zero]; rfl
    · rw [digs_pos h]
      simp only [val]
      rw [ih (n / 4294967296) (by omega)]
      omega
theorem limbs_digs (n : Nat) : Limbs (digs n) := by
  induction n using Nat.strongRecOn with
  | ind n ih =>
    rcases Nat.eq_zero_or_pos n with h | h
    · subst h; rw [digs_zero]; intro x hx; simp at hx
    · rw [digs_pos h]
      intro x hx
      rcases List.mem_cons.1 hx with e | e
      · subst e; omega
      · exact ih (n / 4294967296) (by omega) x e
theorem digs_cons {x v : Nat} (hx : x < 4294967296) (h : 0 < x + 4294967296 * v) : digs (x + 4294967296 * v) = x :: digs v := by
  rw [digs_pos h]
  have h1 : (x + 4294967296 * v) % 4294967296 = x := by omega
  have h2 : (x + 4294967296 * v) / 4294967296 = v := by omega
  rw [h1, h2]
/-- A list of limbs whose last one is not zero is that of its value. -/
theorem digs_val : ∀ {xs : List Nat}, Limbs xs → (∀ h : xs ≠ [], xs.getLast h ≠ 0) → digs (val xs) = xs
  | [], _, _ => by simp [val, digs_zero]
  | [x], h, hl => by
    have hx : x < 4294967296 := h x (by simp)
    have h0 : x ≠ 0 := by simpa using hl (by simp)
    simp only [val]
    rw [digs_cons hx (by omega), digs_zero]
  | x :: y :: xs, h, hl => by
    have hx : x < 4294967296 := h x (by simp)
    have ht := digs_val (xs := y :: xs) (fun z hz => h z (List.mem_cons_of_mem _ hz)) (fun hne => by
      have := hl (by simp)
      rwa [List.getLast_cons (by simp)] at this)
    have hpos : 0 < val (y :: xs) := by
      rcases Nat.eq_zero_or_pos (val (y :: xs)) with e | e
      · rw [e, digs_zero] at ht; simp at ht
      · exact e
    rw [show val (x :: y :: xs) = x + 4294967296 * val (y :: xs) from rfl, digs_cons hx (by omega), ht]
theorem digs_last {n : Nat} : ∀ h : digs n ≠ [], (digs n).getLast h ≠ 0 := by
  induction n using Nat.strongRecOn with
  | ind n ih =>
    intro h
    rcases Nat.eq_zero_or_pos n with e | e
    · subst e; rw [digs_zero] at h; simp at h
    · by_cases hq : n / 4294967296 = 0
      · have h1 : digs n = [n % 4294967296] := by rw [digs_pos e, hq, digs_zero]
        simp only [h1, List.getLast_singleton]
        omega
      · have h1 : digs n = n % 4294967296 :: digs (n / 4294967296) := digs_pos e
        have hne : digs (n / 4294967296) ≠ [] := by
          rw [digs_pos (by omega : 0 < n / 4294967296)]; simp
        simp only [h1]
        rw [List.getLast_cons hne]
        exact ih (n / 4294967296) (by omega) hne
theorem digs_inj {a b : Nat} (h : digs a = digs b) : a = b := by rw [← val_digs a, ← val_digs b, h]
theorem digs_len_le {n k : Nat} (h : n < 4294967296 ^ k) : (digs n).length ≤ k := by
  induction k generalizing n with
  | zero =>
    have : n = 0 := by simpa using h
    subst this; rw [digs_zero]; simp
  | succ k ih =>
    rcases Nat.eq_zero_or_pos n with e | e
    · subst e; rw [digs_zero]; simp
    · rw [digs_pos e, List.length_cons]
      have : n / 4294967296 < 4294967296 ^ k := by
        rw [Nat.div_lt_iff_lt_mul (by omega)]
        rwa [Nat.pow_succ] at h
      have := ih this
      omega
theorem lt_digs_len (n : Nat) : n < 4294967296 ^ (digs n).length := by
  have := val_lt (limbs_digs n)
  rwa [val_digs] at this
theorem digs_len_val {xs : List Nat} (h : Limbs xs) : (digs (val xs)).length ≤ xs.length := digs_len_le (val_lt h)
theorem digs_ne {n : Nat} : digs n = [] ↔ n = 0 := by
  constructor
  · intro h; have := val_digs n; rw [h] at this; simpa [val] using this.symm
  · intro h; subst h; exact digs_zero
theorem digs_len_pos {n : Nat} (h : 0 < n) : 0 < (digs n).length := by rw [digs_pos h]; simp
theorem digs_len_zero {n : Nat} : (digs n).length = 0 ↔ n = 0 := by rw [List.length_eq_zero_iff, digs_ne]
theorem val_take_zeros : ∀ {xs : List Nat} (k : Nat), (∀ j, k ≤ j → j < xs.length → xs.getD j 0 = 0) → val (xs.take k) = val xs
  | [], k, _ => by simp
  | x :: xs, 0, h => by
    have hx : x = 0 := by simpa using h 0 (by omega) (by simp)
    have := val_take_zeros (xs := xs) 0 (fun j _ hj => by simpa using h (j + 1) (by omega) (by simp; omega))
    subst hx
    simp only [List.take_zero, val] at this ⊢
    omega
  | x :: xs, k + 1, h => by
    have := val_take_zeros (xs := xs) k (fun j hk hj => by simpa using h (j + 1) (by omega) (by simp; omega))
    simp only [List.take_succ_cons, val, this]
/-- The limbs up to the highest one that is not zero are those of the value. -/
theorem digs_take {xs : List Nat} (h : Limbs xs) (k : Nat) (hk : k ≤ xs.length) (hz : ∀ j, k ≤ j → j < xs.length → xs.getD j 0 = 0) (hl : 0 < k → xs.getD (k - 1) 0 ≠ 0) : digs (val xs) = xs.take k := by
  rw [← val_take_zeros k hz]
  apply digs_val (limbs_take h k)
  intro hne
  have hk0 : 0 < k := by
    rcases Nat.eq_zero_or_pos k with e | e
    · subst e; simp at hne
    · exact e
  have := hl hk0
  rw [List.getLast_eq_getElem]
  have hlen : (xs.take k).length = k := by rw [List.length_take]; omega
  rw [List.getElem_take]
  rw [List.getD_eq_getElem?_getD, List.getElem?_eq_getElem (by omega : k - 1 < xs.length)] at this
  simp only [hlen]
  simpa using this
theorem getD_take {xs : List Nat} {j k : Nat} (h : j < k) : (xs.take k).getD j 0 = xs.getD j 0 := by
  simp [List.getD_eq_getElem?_getD, h]
/-- Comparing normal lists is comparing their values. -/
theorem ordV_digs (a b : Nat) : ordV (digs a) (digs b) = cmpN a b := by
  unfold ordV
  rw [val_digs, val_digs]
  split
  · rfl
  · rename_i h
    have ha := lt_digs_len a
    have hb := lt_digs_len b
    rcases Nat.lt_or_gt_of_ne h with e | e
    · rw [cmpN_lt (by exact_mod_cast e)]
      have : a < b := by
        rcases Nat.lt_or_ge a b with h1 | h1
        · exact h1
        · have := digs_len_le (Nat.lt_of_le_of_lt h1 ha)
          omega
      rw [cmpN_lt (by exact_mod_cast this)]
    · rw [cmpN_gt (by exact_mod_cast e)]
      have : b < a := by
        rcases Nat.lt_or_ge b a with h1 | h1
        · exact h1
        · have := digs_len_le (Nat.lt_of_le_of_lt h1 hb)
          omega
      rw [cmpN_gt (by exact_mod_cast this)]

theorem digs_eq_take : ∀ {xs : List Nat}, Limbs xs → digs (val xs) = xs.take (digs (val xs)).length
  | [], _ => by simp [val, digs_zero]
  | x :: xs, h => by
    have hx : x < 4294967296 := h x (by simp)
    have ht := digs_eq_take (xs := xs) (fun z hz => h z (List.mem_cons_of_mem _ hz))
    rcases Nat.eq_zero_or_pos (x + 4294967296 * val xs) with e | e
    · simp only [val, e, digs_zero]; simp
    · simp only [val]
      rw [digs_cons hx e, List.length_cons, List.take_succ_cons, ← ht]

theorem val_take_succ (xs : List Nat) (i : Nat) : val (xs.take (i + 1)) = val (xs.take i) + 4294967296 ^ i * xs.getD i 0 := by
  rcases Nat.lt_or_ge i xs.length with h | h
  · rw [List.take_succ_eq_append_getElem h, val_append, List.length_take, Nat.min_eq_left (by omega)]
    simp [val, List.getD_eq_getElem?_getD, List.getElem?_eq_getElem h]
  · rw [List.take_of_length_le (by omega), List.take_of_length_le h, List.getD_eq_getElem?_getD, List.getElem?_eq_none h]
    simp
theorem val_set_take (R : List Nat) (i v : Nat) (h : i < R.length) : val ((R.set i v).take (i + 1)) = val (R.take i) + 4294967296 ^ i * v := by
  rw [val_take_succ, List.take_set_of_le (Nat.le_refl i), List.getD_eq_getElem?_getD, List.getElem?_set_self h]
  simp
theorem limbs_set {R : List Nat} (h : Limbs R) (i : Nat) {v : Nat} (hv : v < 4294967296) : Limbs (R.set i v) := by
  intro x hx
  rcases List.mem_or_eq_of_mem_set hx with e | e
  · exact h x e
  · omega
theorem limbs_zeros (n : Nat) : Limbs (List.replicate n 0) := by
  intro x hx
  have := List.eq_of_mem_replicate hx
  omega
theorem val_zeros (n : Nat) : val (List.replicate n 0) = 0 := by
  induction n with
  | zero => rfl
  | succ n ih => simp [List.replicate_succ, val, ih]
theorem sum_step {X Y V c P x y t : Nat} (h : X + Y = V + c * P) (ht : t = x + c + y) :
    (X + P * x) + (Y + P * y) = (V + P * (t % 4294967296)) + t / 4294967296 * (P * 4294967296) := by
  have e : P * (x + c + y) = P * (4294967296 * (t / 4294967296) + t % 4294967296) := by rw [← ht, Nat.div_add_mod]
  rw [Nat.mul_add, Nat.mul_add, Nat.mul_add, Nat.mul_comm P c] at e
  have e2 : P * (4294967296 * (t / 4294967296)) = t / 4294967296 * (P * 4294967296) := by
    rw [Nat.mul_comm 4294967296, ← Nat.mul_assoc, Nat.mul_comm P, Nat.mul_assoc]
  omega

theorem diff_step {X Y V P x y q r q' : Nat} (h : X + q * P = V + Y) (ht : x + q' * 4294967296 = r + y + q) :
    (X + P * x) + q' * (P * 4294967296) = (V + P * r) + (Y + P * y) := by
  have e : P * (x + q' * 4294967296) = P * (r + y + q) := by rw [ht]
  rw [Nat.mul_add, Nat.mul_add, Nat.mul_add, Nat.mul_comm P q] at e
  have e2 : P * (q' * 4294967296) = q' * (P * 4294967296) := by
    rw [← Nat.mul_assoc, Nat.mul_comm P q', Nat.mul_assoc]
  omega
theorem val_set : ∀ (R : List Nat) (j v : Nat), j < R.length → val (R.set j v) + 4294967296 ^ j * R.getD j 0 = val R + 4294967296 ^ j * v
  | [], j, v, h => by simp at h
  | r :: R, 0, v, _ => by simp [val]; omega
  | r :: R, j + 1, v, h => by
    have ih := val_set R j v (by simpa using h)
    simp only [List.set_cons_succ, val, List.getD_cons_succ, Nat.pow_succ]
    have e : 4294967296 * (val (R.set j v) + 4294967296 ^ j * R.getD j 0) = 4294967296 * (val R + 4294967296 ^ j * v) := by rw [ih]
    rw [Nat.mul_add, Nat.mul_add, ← Nat.mul_assoc, ← Nat.mul_assoc, Nat.mul_comm 4294967296 (4294967296 ^ j)] at e
    omega
theorem getD_set_ne (R : List Nat) {i j : Nat} (v : Nat) (h : i ≠ j) : (R.set i v).getD j 0 = R.getD j 0 := by
  rw [List.getD_eq_getElem?_getD, List.getD_eq_getElem?_getD, List.getElem?_set_ne h]
theorem prod_step {VR VR' V0 P Q c x y Y r t : Nat} (h : VR + c * (P * Q) = V0 + x * Y * P) (ht : t = x * y + r + c) (hs : VR' + P * Q * r = VR + P * Q * (t % 4294967296)) :
    VR' + t / 4294967296 * (P * (Q * 4294967296)) = V0 + x * (Y + Q * y) * P := by
  have e : P * Q * (x * y + r + c) = P * Q * (4294967296 * (t / 4294967296) + t % 4294967296) := by rw [← ht, Nat.div_add_mod]
  have e2 : P * Q * (4294967296 * (t / 4294967296)) = t / 4294967296 * (P * (Q * 4294967296)) := by
    rw [← Nat.mul_assoc, Nat.mul_assoc P Q, Nat.mul_comm]
  have e3 : x * (Y + Q * y) * P = x * Y * P + P * Q * (x * y) := by
    rw [Nat.mul_add, Nat.add_mul]
    congr 1
    rw [Nat.mul_comm _ P, Nat.mul_assoc P Q, Nat.mul_left_comm x Q y]
  rw [Nat.mul_add, Nat.mul_add, Nat.mul_add, e2, Nat.mul_comm (P * Q) c] at e
  omega

/-- What torsionref01.less answers. -/
def lessV (xs ys : List Nat) : Bool := if xs.length = ys.length then decide (val xs < val ys) else decide (xs.length < ys.length)
theorem lessV_at {xs ys : List Nat} (hx : Limbs xs) (hy : Limbs ys) (hl : xs.length = ys.length) (k : Nat) (hk : k < xs.length) (hgt : ∀ j, k < j → j < xs.length → xs.getD j 0 = ys.getD j 0)
    (hne : xs.getD k 0 ≠ ys.getD k 0) : lessV xs ys = decide (xs.getD k 0 < ys.getD k 0) := by
  unfold lessV
  rw [if_pos hl]
  rcases Nat.lt_or_gt_of_ne hne with h | h
  · rw [decide_eq_true (val_lt_of hx hy hl k hk hgt h), decide_eq_true h]
  · have := val_lt_of hy hx hl.symm k (by omega) (fun j h1 h2 => (hgt j h1 (by omega)).symm) h
    rw [decide_eq_false (by omega), decide_eq_false (by omega)]
theorem lessV_eq {xs ys : List Nat} (hl : xs.length = ys.length) (h : ∀ j, j < xs.length → xs.getD j 0 = ys.getD j 0) : lessV xs ys = false := by
  rw [ext_getD hl h]; unfold lessV; rw [if_pos rfl, decide_eq_false (by omega)]
theorem digs_len_mono {a b : Nat} (h : a ≤ b) : (digs a).length ≤ (digs b).length := digs_len_le (Nat.lt_of_le_of_lt h (lt_digs_len b))
theorem lessV_digs (a b : Nat) : lessV (digs a) (digs b) = decide (a < b) := by
  unfold lessV
  rw [val_digs, val_digs]
  split
  · rfl
  · rename_i h
    by_cases h1 : a < b
    · have := digs_len_mono (Nat.le_of_lt h1)
      rw [decide_eq_true h1, decide_eq_true (by omega)]
    · have := digs_len_mono (show b ≤ a by omega)
      rw [decide_eq_false h1, decide_eq_false (by omega)]

theorem val_drop_cons {xs : List Nat} {k : Nat} (h : k < xs.length) : val (xs.drop k) = xs.getD k 0 + 4294967296 * val (xs.drop (k + 1)) := by
  rw [List.drop_eq_getElem_cons h, List.getD_eq_getElem?_getD, List.getElem?_eq_getElem h]
  rfl
theorem val_mod {ys : List Nat} (h : Limbs ys) : val ys % 4294967296 = ys.getD 0 0 := by
  cases ys with
  | nil => rfl
  | cons y ys =>
    have : y < 4294967296 := h y (by simp)
    simp only [val, List.getD_cons_zero]
    omega
theorem val_set_drop {R : List Nat} {k v : Nat} (h : k < R.length) : val ((R.set k v).drop k) = v + 4294967296 * val (R.drop (k + 1)) := by
  have h' : k < (R.set k v).length := by rw [List.length_set]; exact h
  rw [val_drop_cons h', List.getD_eq_getElem?_getD, List.getElem?_set_self h, List.drop_set_of_lt (Nat.lt_succ_self k)]
  rfl
theorem shift_step (x Y y1 S T : Nat) (hB : 4294967296 = S * T) (hS : 0 < S) (hx : x < 4294967296) (hy : y1 = Y % 4294967296) :
    (x + 4294967296 * Y) / S = (x + 4294967296 * y1) / S % 4294967296 + 4294967296 * (Y / S) := by
  have t1 : y1 % S = Y % S := by rw [hy, hB, Nat.mod_mul_right_mod]
  have hY := Nat.div_add_mod Y S
  have hy1 := Nat.div_add_mod y1 S
  rw [t1] at hy1
  have ht := Nat.mod_lt Y hS
  generalize Y % S = t at *
  generalize Y / S = Q at *
  generalize y1 / S = u at *
  have e1 : x + 4294967296 * Y = x + 4294967296 * t + S * (4294967296 * Q) := by
    rw [← hY, Nat.mul_add, Nat.mul_left_comm]; omega
  have e2 : x + 4294967296 * y1 = x + 4294967296 * t + S * (4294967296 * u) := by
    rw [← hy1, Nat.mul_add, Nat.mul_left_comm]; omega
  rw [e1, e2, Nat.add_mul_div_left _ _ hS, Nat.add_mul_div_left _ _ hS]
  have h3 : (x + 4294967296 * t) / S < 4294967296 := by
    rw [Nat.div_lt_iff_lt_mul hS]
    have : 4294967296 * (t + 1) ≤ 4294967296 * S := Nat.mul_le_mul_left _ ht
    omega
  rw [Nat.add_mul_mod_self_left, Nat.mod_eq_of_lt h3]
end Go.Proofs.YtclmenpclkmfeaaDoor
namespace Go.Proofs.YtclmenpclkmfeaaDoor
open Go.RowKit

set_option maxHeartbeats 400000 in
theorem trim_any (A : Option Addr) (n c B : Nat) (xs : List Nat) (w : World) (ha : Lim w B A n c xs) :
    Calls Tryd.prog 80 #[.slice A n c] w fun e w' => e = .returned (.slice A (digs (val xs)).length (digs (val xs)).length) ∧ w = w' := by
  have hn := ha.cap
  have hn' : n ≤ 9223372036854775807 := by omega
  have hnc : n ≤ c := by omega
  clear hn
  have HL := Lib.hid ha.len
  have hLx : Limbs xs := ha.lt
  go_enter Tryd.func80, Tryd.ntmps80
  go_wp2
  go_step3
  go_wp2
  go_step3
  go_wp2
  go_loopg [3] n (fun k i wr => k ≤ n ∧ i = .int .i64 k ∧ Hid (∀ j : Nat, k ≤ j → j < n → xs.getD j 0 = 0) ∧ w = wr)
  case atStart => exact ⟨by omega, rfl, fun j h1 h2 => absurd h1 (by omega), rfl⟩
  case round =>
    obtain ⟨hkn, rfl, hz, rfl⟩ := hrel
    cases gk with
    | zero =>
      have hv : digs (val xs) = xs.take 0 := digs_take hLx 0 (by omega) (fun j h1 h2 => hz.out j h1 (by rw [HL.out] at h2; exact h2)) (fun h => absurd h (by omega))
      have HV := Lib.hid hv
      clear hv
      go_wp2
      try rw [Exit.noGoto_ret]
      go_ret
      refine ⟨?_, rfl⟩
      rw [HV.out]
      rfl
    | succ k =>
      obtain ⟨ad, rfl, _, x, hx, hxl, hcx⟩ := ha.at_ (show k < n by omega)
      by_cases h0 : x = 0
      · subst h0
        go_wp2
        go_roundg k
        case measure => omega
        case rel =>
          refine ⟨by omega, by go_num, fun j h1 h2 => ?_, rfl⟩
          rcases Nat.eq_or_lt_of_le h1 with e | e
          · subst e; exact hx.out.symm
          · exact hz.out j (by omega) h2
      · have hb1 : ((x : Int) == 0) = false := by simp; omega
        have hv : digs (val xs) = xs.take (k + 1) := digs_take hLx (k + 1) (by rw [HL.out]; omega) (fun j h1 h2 => hz.out j h1 (by rw [HL.out] at h2; exact h2)) (fun _ => by rw [Nat.add_sub_cancel, ← hx.out]; exact h0)
        have HV := Lib.hid (show (digs (val xs)).length = k + 1 by rw [hv, List.length_take, HL.out]; omega)
        have h1 : k + 1 ≤ n := by omega
        clear hv h0
        go_wp2
        try rw [Exit.noGoto_ret]
        go_ret
        refine ⟨?_, rfl⟩
        rw [HV.out]
        rfl

/-- The trimmed slice reads as the limbs of the value. -/
theorem Lim.trim {w : World} {B n c : Nat} {A : Option Addr} {xs : List Nat} (h : Lim w B A n c xs) : Lim w B A (digs (val xs)).length (digs (val xs)).length (digs (val xs)) := by
  have hl := digs_len_val h.lt
  rw [h.len] at hl
  have hc := h.cap
  refine ⟨by omega, rfl, limbs_digs _, fun hn => ?_⟩
  obtain ⟨ad, e, hb, hr⟩ := h.rd (by omega)
  refine ⟨ad, e, hb, fun k hk => ?_⟩
  rw [hr k (by omega), digs_eq_take h.lt, getD_take hk]
theorem Lim.take {w : World} {B n c : Nat} {A : Option Addr} {xs : List Nat} (h : Lim w B A n c xs) (k : Nat) (hk : k ≤ n) : Lim w B A k c (xs.take k) := by
  have hl := h.len
  have hc := h.cap
  refine ⟨by omega, by rw [List.length_take]; omega, limbs_take h.lt k, fun hn => ?_⟩
  obtain ⟨ad, e, hb, hr⟩ := h.rd (by omega)
  exact ⟨ad, e, hb, fun j hj => by rw [hr j (by omega), getD_take hj]⟩
end Go.Proofs.YtclmenpclkmfeaaDoor
namespace Go.Proofs.YtclmenpclkmfeaaDoor
open Go.RowKit

theorem infoU : (Tryd.prog.info? 69).map (fun i => (i.zero, i.size, i.bytes)) = some (some (.int .u32 0), 1, 4) := by kernel_rfl

def ints (xs : List Nat) : List Value := xs.map fun (x : Nat) => Value.int .u32 (x : Int)
theorem ints_len (xs : List Nat) : (ints xs).length = xs.length := by simp [ints]
theorem ints_append (xs ys : List Nat) : ints (xs ++ ys) = ints xs ++ ints ys := by simp [ints]
theorem ints_get (xs : List Nat) (k : Nat) (h : k < xs.length) : (ints xs)[k]? = some (.int .u32 ((xs.getD k 0 : Nat) : Int)) := by
  simp [ints, List.getD_eq_getElem?_getD, List.getElem?_eq_getElem h]
theorem ints_one (xs : List Nat) : ∀ u ∈ ints xs, u.oneCell' = true := by
  intro u hu
  simp only [ints, List.mem_map] at hu
  obtain ⟨x, _, rfl⟩ := hu
  rfl

/-- The slice value v owns a row of its own with the limbs xs. -/
def Own (w : World) (base : Nat) (v : Value) (n : Nat) (xs : List Nat) : Prop := w.ownsRow base 69 1 v n (ints xs)

theorem Own.len {w : World} {base : Nat} {v : Value} {n : Nat} {xs : List Nat} (h : Own w base v n xs) : xs.length = n := by
  have := h.1
  rw [ints_len] at this; omega
theorem Own.form {w : World} {base : Nat} {v : Value} {n : Nat} {xs : List Nat} (h : Own w base v n xs) (hl : Limbs xs) : ∃ A c, v = .slice A n c ∧ Lim w w.heap.size A n c xs := by
  have hlen := h.len
  rcases h.2 with ⟨rfl, rfl⟩ | ⟨g, cap, cur, rfl, hb, hg, hn, hm, hs, ht⟩
  · have : xs = [] := List.eq_nil_of_length_eq_zero hlen
    subst this
    exact ⟨none, 0, rfl, Lim.none_ (by omega)⟩
  · refine ⟨_, _, rfl, ⟨hn, by unfold maxLen at hm; omega⟩, hlen, hl, fun hpos => ⟨_, rfl, ?_, fun k hk => ?_⟩⟩
    · exact (Array.getElem?_eq_some_iff.1 hg).1
    · rw [Addr.add_lit, cell_of_row w g (0 + k) cur _ _ hg, Nat.zero_add]
      rw [← ints_get xs k (by omega), ← ht]
      rw [Nat.mul_one]
      rw [List.getElem?_take, if_pos hk]
      simp
theorem Own.keep {w w' : World} {base : Nat} {v : Value} {n : Nat} {xs : List Nat} (h : Own w base v n xs) (hb : Below w.heap.size w w') : Own w' base v n xs := by
  refine ⟨h.1, ?_⟩
  rcases h.2 with hn | ⟨g, cap, cur, rfl, hg, hgg, rest⟩
  · exact .inl hn
  · exact .inr ⟨g, cap, cur, rfl, hg, by rw [hb.block g (Array.getElem?_eq_some_iff.1 hgg).1]; exact hgg, rest⟩
/-- A new empty row. -/
theorem Own.empty (w : World) (base : Nat) (hb : base ≤ w.heap.size) : Own (w.alloc (.cells #[] 69)) base (.slice (some ⟨w.heap.size, 0, none⟩) 0 0) 0 [] :=
  ⟨rfl, .inr ⟨_, 0, #[], rfl, hb, heap_alloc_new w _, Nat.le_refl _, Nat.zero_le _, rfl, rfl⟩⟩

theorem wpList_append_lim {ops : Array Oper} {rest : List Oper} {o : Oper} {a : Act} {Q : Exit → Act → World → Prop} (w : World) (hgd : o.guard = none) (s x : Operand)
    (ho : o.op = .call { callee := .builtin .append, args := #[s, x], argTypes := #[26, 26] })
    (base : Nat) (v : Value) (n : Nat) (xs : List Nat) (hs : a.eval s = v) (hown : Own w base v n xs) (hlx : Limbs xs)
    (B : Nat) (A : Option Addr) (m c : Nat) (news : List Nat) (hx : a.eval x = .slice A m c) (hr : Lim w B A m c news) (h63 : n + m ≤ 1000000) (hbase : base ≤ w.heap.size)
    (h : ∀ A' c' w', Lim w' w'.heap.size A' (n + m) c' (xs ++ news) → Own w' base (.slice A' (n + m) c') (n + m) (xs ++ news) → w.grownBy w' v.ownBlock → wpList Tryd.prog ops Q rest (a.put o.dst (.slice A' (n + m) c')) w') :
    wpList Tryd.prog ops Q (o :: rest) a w := by
  obtain ⟨i0, hi, hz0, hz1, hz2⟩ := info_parts infoU
  have hlim : Limbs (xs ++ news) := fun z hz => by
    rcases List.mem_append.1 hz with e | e
    · exact hlx z e
    · exact hr.lt z e
  have key : ∃ v' w', (Builtin.append_ #[26, 26] o.type #[v, .slice A m c]).run Tryd.prog w = .ok v' w' ∧ Own w' base v' (n + m) (xs ++ news) ∧ w.grownBy w' v.ownBlock := by
    rcases A with _ | ad
    · have hm : m = 0 := by
        rcases Nat.eq_zero_or_pos m with h0 | h0
        · exact h0
        · obtain ⟨ad, h, _⟩ := hr.rd h0
          cases h
      subst hm
      have hn : news = [] := List.eq_nil_of_length_eq_zero hr.len
      subst hn
      refine ⟨v, w, ?_, by simpa using hown, World.grownBy.refl w _⟩
      rcases hown.2 with ⟨rfl, rfl⟩ | ⟨g, cap, cur, rfl, _, _, hnc, _⟩
      · simp [Builtin.append_, run_underlying Tryd.underlying26, sizeOf, typeInfo, hi, Builtin.lenOf, Builtin.firstCells]
      · simp [Builtin.append_, run_underlying Tryd.underlying26, sizeOf, typeInfo, hi, Builtin.lenOf, Builtin.firstCells, hnc, storeCells]
    · have hcells : ∀ j u, (ints news)[j]? = some u → w.cell? (ad.add j) = some u := by
        intro j u hu
        rcases Nat.lt_or_ge j m with h0 | h0
        · obtain ⟨ad', e, _, hc⟩ := hr.rd (by omega)
          obtain rfl := Option.some.inj e
          rw [hc j h0, ← hu, ints_get news j (by rw [hr.len]; exact h0)]
        · rw [List.getElem?_eq_none (by rw [ints_len, hr.len]; exact h0)] at hu
          cases hu
      obtain ⟨v', w', hrun, h2, h3, _, _⟩ := run_append_own_at (P := Tryd.prog) w base 26 o.type 69 i0 _ 1 4 Tryd.underlying26 hi hz0 hz1 hz2 rfl (by omega) v n (ints xs) hown ad m c (ints news)
        (by rw [ints_len, hr.len]; omega) hcells (ints_one news) (by unfold maxLen; omega) (by omega) hbase
      rw [← ints_append] at h2
      exact ⟨v', w', hrun, h2, h3⟩
  obtain ⟨v', w', hrun, h2, h3⟩ := key
  obtain ⟨A', c', rfl, hl'⟩ := h2.form hlim
  refine wpList_plain hgd fun K hK => ?_
  unfold Oper.wp execOp
  simp only [ho, resolve, invoke, builtin, Sem.run_bind, Sem.run_pure, Result.andThen_ok, List.map_toArray, List.map_cons, List.map_nil, hs, hx, hrun]
  exact hK _ _ (h A' c' w' hl' h2 h3)

/-- A block that holds just these limbs. -/
def Row (w : World) (g : Nat) (xs : List Nat) : Prop := w.heap[g]? = some (.cells (ints xs).toArray 69 (0, 0))
section
variable {w w' : World} {g : Nat} {xs : List Nat}
theorem Row.lt (h : Row w g xs) : g < w.heap.size := (Array.getElem?_eq_some_iff.1 h).1
theorem Row.cell (h : Row w g xs) {k : Nat} (hk : k < xs.length) : w.cell? ⟨g, k, none⟩ = some (.int .u32 ((xs.getD k 0 : Nat) : Int)) := by
  rw [cell_of_row w g k _ _ _ h, List.getElem?_toArray, ints_get xs k hk]
theorem Row.frozen (h : Row w g xs) (i : Nat) : w.frozen? ⟨g, i, none⟩ = false := by
  unfold Row at h
  simp [World.frozen?, h]
theorem Row.below {B : Nat} (h : Row w g xs) (hb : Below B w w') (hg : g < B) : Row w' g xs := (hb.block g hg).trans h
theorem Row.drewN (h : Row w g xs) (n : Nat) : Row (w.drewN n) g xs := h
theorem Row.drew (h : Row w g xs) : Row w.drew g xs := h
theorem Row.alloc (h : Row w g xs) (o : Obj) : Row (w.alloc o) g xs := (Below.heap_alloc w o g h.lt).trans h
theorem Row.far (h : Row w g xs) {p : Addr} (hp : g ≠ p.block) (u : Value) : Row (w.setCell p u) g xs := (Below.heap_setCell w p u g hp).trans h
theorem Row.set (h : Row w g xs) (k x : Nat) : Row (w.setCell ⟨g, k, none⟩ (.int .u32 (x : Int))) g (xs.set k x) := by
  unfold Row at h ⊢
  simp [World.setCell, Array.getElem?_modify, h, ints, List.map_set]
theorem Row.made (w : World) (n : Nat) : Row (w.alloc (.cells (madeCells #[.int .u32 0] n) 69)) w.heap.size (List.replicate n 0) := by
  unfold Row
  rw [heap_alloc_new]
  congr 2
  rw [← Array.toList_inj, toList_madeCells_one]
  simp [ints]
theorem Row.lim (h : Row w g xs) (hl : Limbs xs) (c : Nat) (hc : xs.length ≤ c) (hc' : c ≤ 9223372036854775807) : Lim w w.heap.size (some ⟨g, 0, none⟩) xs.length c xs :=
  ⟨⟨hc, hc'⟩, rfl, hl, fun _ => ⟨_, rfl, h.lt, fun k hk => by rw [Addr.add_lit, Nat.zero_add]; exact h.cell hk⟩⟩
end

/-- A new slice of one or two limbs. -/
theorem row_new (w : World) (xs : List Nat) (cs : Array Value) (h : cs = (ints xs).toArray) : Row (w.alloc (.cells cs 69)) w.heap.size xs := by
  subst h; exact heap_alloc_new w _

theorem make_u32 (n : Nat) (h : n ≤ 2000002) (W : World) : (Instr.makeSlice 26 (.int .i64 (n : Int)) (.int .i64 (n : Int))).run Tryd.prog W =
    .ok (.slice (some ⟨W.heap.size, 0, none⟩) n n) (W.alloc (.cells (madeCells #[.int .u32 0] n) 69)) := by
  obtain ⟨i0, hi, hz0, hz1, hz2⟩ := info_parts infoU
  have := run_make (P := Tryd.prog) W 26 69 i0 _ Tryd.underlying26 hi hz0 .i64 .i64 (n : Int) (n : Int) (by omega) (by omega) (by rw [hz2]; omega) (by omega)
  rw [hz1, Nat.mul_one, Int.toNat_natCast] at this
  exact this
theorem Row.len_lim {w : World} {g : Nat} {xs : List Nat} (h : Row w g xs) (hl : Limbs xs) (n : Nat) (hn : xs.length = n) (hc : n ≤ 9223372036854775807) : Lim w w.heap.size (some ⟨g, 0, none⟩) n n xs := by
  subst hn
  exact h.lim hl _ (Nat.le_refl _) hc

/-- The fields (neg, slice) are the valid integer z in w. -/
structure IsInt (w : World) (neg : Bool) (A : Option Addr) (n c : Nat) (z : Int) : Prop where
  sign : neg = decide (z < 0)
  lim : Lim w w.heap.size A n c (digs z.natAbs)
theorem IsInt.below {w w' : World} {neg : Bool} {A : Option Addr} {n c : Nat} {z : Int} (h : IsInt w neg A n c z) (hb : Below w.heap.size w w') : IsInt w' neg A n c z :=
  ⟨h.sign, (h.lim.below hb).more hb.size⟩

/-- A value that is no limb: its cell is not part of a slice of limbs. -/
def noLimb : Value → Bool
  | .int .u32 _ => false
  | _ => true
theorem Lim.setOther {w : World} {B n c : Nat} {A : Option Addr} {xs : List Nat} (h : Lim w B A n c xs) {p : Addr} {v : Value} (hp : w.cell? p = some v) (hv : noLimb v = true) (u : Value) : Lim (w.setCell p u) B A n c xs :=
  ⟨h.cap, h.len, h.lt, fun hn => by
    obtain ⟨ad, e, hb, hc⟩ := h.rd hn
    refine ⟨ad, e, hb, fun k hk => ?_⟩
    rw [World.cell?_setCell_other _ _ _ _ (fun e => by rw [e, hc k hk] at hp; cases hp; cases hv), hc k hk]⟩
theorem Lim.more' {w : World} {B n c : Nat} {A : Option Addr} {xs : List Nat} (h : Lim w w.heap.size A n c xs) (hB : w.heap.size ≤ B) : Lim w B A n c xs := h.more hB
/-- A store of a result into the two cells of a struct of the call's own. -/
theorem IsInt.stored {w : World} {neg : Bool} {A : Option Addr} {n c : Nat} {z : Int} (h : IsInt w neg A n c z) {g : Nat} {a0 a1 : Value} (h0 : w.cell? ⟨g, 0, none⟩ = some a0) (h1 : w.cell? ⟨g, 1, none⟩ = some a1)
    (n0 : noLimb a0 = true) (n1 : noLimb a1 = true) (u0 u1 : Value) : IsInt ((w.setCell ⟨g, 0, none⟩ u0).setCell ⟨g, 1, none⟩ u1) neg A n c z := by
  have e1 : (w.setCell ⟨g, 0, none⟩ u0).cell? ⟨g, 1, none⟩ = some a1 := by
    rw [World.cell?_setCell_other _ _ _ _ (by simp), h1]
  have := (h.lim.setOther h0 n0 u0).setOther e1 n1 u1
  exact ⟨h.sign, this.more (by simp [World.setCell])⟩

/-- A struct of two cells of the call's own: its cells, free to be written. -/
def Slot2 (w : World) (g : Nat) (a0 a1 : Value) : Prop := w.cell? ⟨g, 0, none⟩ = some a0 ∧ w.cell? ⟨g, 1, none⟩ = some a1 ∧ w.frozen? ⟨g, 0, none⟩ = false ∧ w.frozen? ⟨g, 1, none⟩ = false ∧ g < w.heap.size
theorem Slot2.new (w : World) (a0 a1 : Value) (t : TypeId) : Slot2 (w.alloc (.cells #[a0, a1] t)) w.heap.size a0 a1 := by
  refine ⟨?_, ?_, ?_, ?_, ?_⟩ <;> simp
theorem Slot2.below {w w1 : World} {N g : Nat} {a0 a1 : Value} (h : Slot2 w g a0 a1) (hb : Below N w w1) (hg : g < N) : Slot2 w1 g a0 a1 :=
  ⟨(hb.cell (p := ⟨g, 0, none⟩) hg).trans h.1, (hb.cell (p := ⟨g, 1, none⟩) hg).trans h.2.1, (hb.frozen (p := ⟨g, 0, none⟩) hg).trans h.2.2.1, (hb.frozen (p := ⟨g, 1, none⟩) hg).trans h.2.2.2.1, Nat.lt_of_lt_of_le h.2.2.2.2 hb.size⟩
theorem Slot2.after {w w1 : World} {g : Nat} {a0 a1 : Value} (h : Slot2 w g a0 a1) (hb : Below w.heap.size w w1) : Slot2 w1 g a0 a1 := h.below hb h.2.2.2.2
theorem Slot2.alloc {w : World} {g : Nat} {a0 a1 : Value} (h : Slot2 w g a0 a1) (o : Obj) : Slot2 (w.alloc o) g a0 a1 := h.below ((Below.refl _ _).alloc (Nat.le_refl _) o) h.2.2.2.2
theorem Slot2.drewN {w : World} {g : Nat} {a0 a1 : Value} (h : Slot2 w g a0 a1) (n : Nat) : Slot2 (w.drewN n) g a0 a1 := h
theorem Slot2.drew {w : World} {g : Nat} {a0 a1 : Value} (h : Slot2 w g a0 a1) : Slot2 w.drew g a0 a1 := h

theorem Slot2.far {w : World} {g g' i : Nat} {a0 a1 : Value} (h : Slot2 w g a0 a1) (hne : g ≠ g') (u : Value) : Slot2 (w.setCell ⟨g', i, none⟩ u) g a0 a1 :=
  have e := Below.heap_setCell w ⟨g', i, none⟩ u g hne
  ⟨(World.cell?_of_block (w := w) (a := ⟨g, 0, none⟩) e).trans h.1, (World.cell?_of_block (w := w) (a := ⟨g, 1, none⟩) e).trans h.2.1,
    (World.frozen?_of_block (w := w) (a := ⟨g, 0, none⟩) e).trans h.2.2.1, (World.frozen?_of_block (w := w) (a := ⟨g, 1, none⟩) e).trans h.2.2.2.1, by simp only [World.setCell, Array.size_modify]; exact h.2.2.2.2⟩
theorem Slot2.far2 {w : World} {g g' : Nat} {a0 a1 : Value} (h : Slot2 w g a0 a1) (hne : g ≠ g') (u v : Value) : Slot2 ((w.setCell ⟨g', 0, none⟩ u).setCell ⟨g', 1, none⟩ v) g a0 a1 := (h.far hne u).far hne v
theorem Slot2.set2 {w : World} {g : Nat} {a0 a1 : Value} (h : Slot2 w g a0 a1) (u v : Value) : Slot2 ((w.setCell ⟨g, 0, none⟩ u).setCell ⟨g, 1, none⟩ v) g u v := by
  obtain ⟨h0, h1, f0, f1, hl⟩ := h
  refine ⟨?_, ?_, ?_, ?_, ?_⟩
  · rw [World.cell?_setCell_other _ _ _ _ (by simp), World.cell?_setCell_same _ _ _ h0]
  · have e1 : (w.setCell ⟨g, 0, none⟩ u).cell? ⟨g, 1, none⟩ = some a1 := by rw [World.cell?_setCell_other _ _ _ _ (by simp), h1]
    rw [World.cell?_setCell_same _ _ _ e1]
  · simp [f0]
  · simp [f1]
  · simp only [World.setCell, Array.size_modify]; exact hl
/-- The blocks of a function with one integer and an integer result; with two; with one integer alone; with two alone. -/
theorem frame11 (w : World) (a0 a1 : Value) : Below w.heap.size w ((w.alloc (.cells #[a0, a1] 28)).alloc (.cells #[.bool false, .slice none 0 0] 28)) ∧
    Slot2 ((w.alloc (.cells #[a0, a1] 28)).alloc (.cells #[.bool false, .slice none 0 0] 28)) w.heap.size a0 a1 ∧
    Slot2 ((w.alloc (.cells #[a0, a1] 28)).alloc (.cells #[.bool false, .slice none 0 0] 28)) (w.heap.size + 1) (.bool false) (.slice none 0 0) := by
  refine ⟨((Below.refl _ _).alloc (Nat.le_refl _) _).alloc (by simp) _, (Slot2.new w a0 a1 _).alloc _, ?_⟩
  have := Slot2.new (w.alloc (.cells #[a0, a1] 28)) (.bool false) (.slice none 0 0) 28
  rwa [World.size_alloc] at this
theorem frame21 (w : World) (a0 a1 b0 b1 : Value) : Below w.heap.size w (((w.alloc (.cells #[a0, a1] 28)).alloc (.cells #[b0, b1] 28)).alloc (.cells #[.bool false, .slice none 0 0] 28)) ∧
    Slot2 (((w.alloc (.cells #[a0, a1] 28)).alloc (.cells #[b0, b1] 28)).alloc (.cells #[.bool false, .slice none 0 0] 28)) w.heap.size a0 a1 ∧
    Slot2 (((w.alloc (.cells #[a0, a1] 28)).alloc (.cells #[b0, b1] 28)).alloc (.cells #[.bool false, .slice none 0 0] 28)) (w.heap.size + 1) b0 b1 ∧
    Slot2 (((w.alloc (.cells #[a0, a1] 28)).alloc (.cells #[b0, b1] 28)).alloc (.cells #[.bool false, .slice none 0 0] 28)) (w.heap.size + 1 + 1) (.bool false) (.slice none 0 0) := by
  have h1 := Slot2.new (w.alloc (.cells #[a0, a1] 28)) b0 b1 28
  have h2 := Slot2.new ((w.alloc (.cells #[a0, a1] 28)).alloc (.cells #[b0, b1] 28)) (.bool false) (.slice none 0 0) 28
  rw [World.size_alloc] at h1
  rw [World.size_alloc, World.size_alloc] at h2
  exact ⟨(((Below.refl _ _).alloc (Nat.le_refl _) _).alloc (by simp) _).alloc (by simp; omega) _, ((Slot2.new w a0 a1 _).alloc _).alloc _, h1.alloc _, h2⟩

/-- A valid integer z comes back, nothing that was there has changed. -/
def RetInt (w : World) (z : Int) (e : Ending) (w' : World) : Prop := ∃ neg A n c, e = .returned (.agg #[.bool neg, .slice A n c]) ∧ IsInt w' neg A n c z ∧ Below w.heap.size w w'
/-- A slice that reads as xs comes back, nothing that was there has changed. -/
def RetSl (w : World) (xs : List Nat) (e : Ending) (w' : World) : Prop := ∃ A n c, e = .returned (.slice A n c) ∧ Lim w' w'.heap.size A n c xs ∧ Below w.heap.size w w'
end Go.Proofs.YtclmenpclkmfeaaDoor
namespace Go.Proofs.YtclmenpclkmfeaaDoor
/-- The integer with this sign and this size. -/
def zOf (neg : Bool) (v : Nat) : Int := if neg then -(v : Int) else (v : Int)
theorem dm_neg_zero (A B : Nat) (hB : 0 < B) (hR : A % B = 0) : (-(A : Int)) / (B : Int) = -((A / B : Nat) : Int) ∧ (-(A : Int)) % (B : Int) = 0 := by
  have e : (A : Int) = (B : Int) * ((A / B : Nat) : Int) := by
    have := Nat.div_add_mod A B
    rw [hR, Nat.add_zero] at this
    exact_mod_cast this.symm
  have hb : (B : Int) ≠ 0 := by omega
  constructor
  · rw [e, ← Int.mul_neg, Int.mul_ediv_cancel_left _ hb]
  · rw [e, ← Int.mul_neg, Int.mul_emod_right]
theorem dm_neg_pos (A B : Nat) (hB : 0 < B) (hR : 0 < A % B) : (-(A : Int)) / (B : Int) = -((A / B + 1 : Nat) : Int) ∧ (-(A : Int)) % (B : Int) = ((B - A % B : Nat) : Int) := by
  have h1 := Nat.div_add_mod A B
  have h2 := Nat.mod_lt A hB
  have e : (A : Int) = (B : Int) * ((A / B : Nat) : Int) + ((A % B : Nat) : Int) := by exact_mod_cast h1.symm
  have hu := (Int.ediv_emod_unique (a := -(A : Int)) (b := (B : Int)) (r := ((B - A % B : Nat) : Int)) (q := -((A / B + 1 : Nat) : Int)) (by omega)).2
  refine hu ⟨?_, by omega, by omega⟩
  have e3 : ((B - A % B : Nat) : Int) = (B : Int) - ((A % B : Nat) : Int) := by omega
  have e4 : (B : Int) * -((A / B + 1 : Nat) : Int) = -((B : Int) * ((A / B : Nat) : Int)) - B := by
    rw [Int.mul_neg, show ((A / B + 1 : Nat) : Int) = ((A / B : Nat) : Int) + 1 by omega, Int.mul_add, Int.mul_one]; omega
  rw [e3, e4]
  omega
theorem dm_a (a b : Int) (hb : b ≠ 0) (ha : 0 ≤ a) : a / b = zOf (decide (b < 0)) (a.natAbs / b.natAbs) ∧ a % b = ((a.natAbs % b.natAbs : Nat) : Int) := by
  obtain ⟨A, rfl⟩ := Int.eq_ofNat_of_zero_le ha
  rcases Int.lt_or_le b 0 with h | h
  · obtain ⟨B, hB⟩ := Int.eq_ofNat_of_zero_le (show 0 ≤ -b by omega)
    have e : b = -(B : Int) := by omega
    subst e
    rw [decide_eq_true h, Int.ediv_neg, Int.emod_neg, Int.natAbs_neg, Int.natAbs_natCast, Int.natAbs_natCast]
    exact ⟨rfl, rfl⟩
  · obtain ⟨B, rfl⟩ := Int.eq_ofNat_of_zero_le h
    rw [decide_eq_false (by omega), Int.natAbs_natCast, Int.natAbs_natCast]
    exact ⟨rfl, rfl⟩
theorem dm_b (a b : Int) (hb : b ≠ 0) (ha : a < 0) (hR : a.natAbs % b.natAbs = 0) : a / b = zOf (!decide (b < 0)) (a.natAbs / b.natAbs) ∧ a % b = 0 := by
  obtain ⟨A, hA⟩ := Int.eq_ofNat_of_zero_le (show 0 ≤ -a by omega)
  have e : a = -(A : Int) := by omega
  subst e
  rcases Int.lt_or_le b 0 with h | h
  · obtain ⟨B, hB⟩ := Int.eq_ofNat_of_zero_le (show 0 ≤ -b by omega)
    have e : b = -(B : Int) := by omega
    subst e
    simp only [Int.natAbs_neg, Int.natAbs_natCast] at hR ⊢
    have h1 := dm_neg_zero A B (by omega) hR
    rw [decide_eq_true h, Int.ediv_neg, Int.emod_neg, h1.1, h1.2, Int.neg_neg]
    exact ⟨rfl, rfl⟩
  · obtain ⟨B, rfl⟩ := Int.eq_ofNat_of_zero_le h
    simp only [Int.natAbs_neg, Int.natAbs_natCast] at hR ⊢
    have h1 := dm_neg_zero A B (by omega) hR
    rw [decide_eq_false (by omega), h1.1, h1.2]
    exact ⟨rfl, rfl⟩
theorem dm_c (a b : Int) (hb : b ≠ 0) (ha : a < 0) (hR : 0 < a.natAbs % b.natAbs) : a / b = zOf (!decide (b < 0)) (a.natAbs / b.natAbs + 1) ∧ a % b = ((b.natAbs - a.natAbs % b.natAbs : Nat) : Int) := by
  obtain ⟨A, hA⟩ := Int.eq_ofNat_of_zero_le (show 0 ≤ -a by omega)
  have e : a = -(A : Int) := by omega
  subst e
  rcases Int.lt_or_le b 0 with h | h
  · obtain ⟨B, hB⟩ := Int.eq_ofNat_of_zero_le (show 0 ≤ -b by omega)
    have e : b = -(B : Int) := by omega
    subst e
    simp only [Int.natAbs_neg, Int.natAbs_natCast] at hR ⊢
    have h1 := dm_neg_pos A B (by omega) hR
    rw [decide_eq_true h, Int.ediv_neg, Int.emod_neg, h1.1, h1.2, Int.neg_neg]
    exact ⟨rfl, rfl⟩
  · obtain ⟨B, rfl⟩ := Int.eq_ofNat_of_zero_le h
    simp only [Int.natAbs_neg, Int.natAbs_natCast] at hR ⊢
    have h1 := dm_neg_pos A B (by omega) hR
    rw [decide_eq_false (by omega), h1.1, h1.2]
    exact ⟨rfl, rfl⟩
end Go.Proofs.YtclmenpclkmfeaaDoor
namespace Go.Proofs.YtclmenpclkmfeaaDoor
open Go.RowKit

theorem natAbs_val (neg : Bool) (v : Nat) : (if neg then -(v : Int) else (v : Int)).natAbs = v := by cases neg <;> simp
theorem zOf_natAbs (neg : Bool) (v : Nat) : (zOf neg v).natAbs = v := natAbs_val neg v
theorem zOf_neg (neg : Bool) (v : Nat) : decide (zOf neg v < 0) = (neg && decide (0 < v)) := by
  unfold zOf
  cases neg <;> simp <;> omega

set_option maxHeartbeats 400000 in
theorem tidy_any (neg : Bool) (A : Option Addr) (n c B : Nat) (xs : List Nat) (w : World) (ha : Lim w B A n c xs) (hB : B ≤ w.heap.size) :
    Calls Tryd.prog 70 #[.agg #[.bool neg, .slice A n c]] w fun e w' =>
      e = .returned (.agg #[.bool (decide (zOf neg (val xs) < 0)), .slice A (digs (val xs)).length (digs (val xs)).length]) ∧ Below w.heap.size w w' := by
  have HZ := Lib.hid (zOf_neg neg (val xs))
  generalize hk : (digs (val xs)).length = k
  have HK : Hid (k = 0 ↔ val xs = 0) := by subst hk; exact digs_len_zero
  have HT : ∀ W, Below w.heap.size w W → Calls Tryd.prog 80 #[.slice A n c] W fun e w' => e = .returned (.slice A k k) ∧ W = w' := by
    intro W hW
    subst hk
    exact trim_any A n c B xs W (ha.keep fun p hp => hW.cell (by omega))
  have HT' := Lib.hid HT
  clear HT hk ha
  have HB := ((Below.refl w.heap.size w).alloc (Nat.le_refl _) (.cells #[.bool neg, .slice A n c] 28)).alloc (by simp) (.cells #[.bool false, .slice none 0 0] 28)
  cases neg
  · go_enter Tryd.func70, Tryd.ntmps70
    go_wp2_with fail
    refine (HT'.out _ HB).mono ?_
    rintro e w1 ⟨rfl, rfl⟩
    go_wp2
    refine bodyPost_ret (v := .agg #[.bool false, .slice A k k]) (by simp [results, Tryd.results70, go_sem]) rfl ⟨?_, ((Below.refl _ _).alloc (Nat.le_refl _) _).alloc (by simp) _⟩
    rw [HZ.out]; rfl
  · rcases Nat.eq_zero_or_pos k with h0 | h0
    · subst h0
      have hv : decide (zOf true (val xs) < 0) = false := by rw [HZ.out, HK.out.1 rfl]; rfl
      rw [hv]
      clear hv HK HZ
      go_enter Tryd.func70, Tryd.ntmps70
      go_wp2_with fail
      refine (HT'.out _ HB).mono ?_
      rintro e w1 ⟨rfl, rfl⟩
      go_wp2
      exact bodyPost_ret (v := .agg #[.bool false, .slice A 0 0]) (by simp [results, Tryd.results70, go_sem]) rfl ⟨rfl, ((Below.refl _ _).alloc (Nat.le_refl _) _).alloc (by simp) _⟩
    · have hv : 0 < val xs := by
        rcases Nat.eq_zero_or_pos (val xs) with e | e
        · have := HK.out.2 e; omega
        · exact e
      rw [HZ.out, decide_eq_true hv]
      clear hv HK HZ
      go_enter Tryd.func70, Tryd.ntmps70
      go_wp2_with fail
      refine (HT'.out _ HB).mono ?_
      rintro e w1 ⟨rfl, rfl⟩
      go_wp2
      exact bodyPost_ret (v := .agg #[.bool true, .slice A k k]) (by simp [results, Tryd.results70, go_sem]) rfl ⟨rfl, ((Below.refl _ _).alloc (Nat.le_refl _) _).alloc (by simp) _⟩

/-- What the trimmed limbs are as an integer. -/
theorem IsInt.mk' {w : World} {B n c : Nat} {A : Option Addr} {xs : List Nat} (neg : Bool) (h : Lim w B A n c xs) (hB : B ≤ w.heap.size) :
    IsInt w (decide (zOf neg (val xs) < 0)) A (digs (val xs)).length (digs (val xs)).length (zOf neg (val xs)) :=
  ⟨rfl, by rw [zOf_natAbs]; exact h.trim.more hB⟩

theorem tidy_ret (neg : Bool) (A : Option Addr) (n c B : Nat) (xs : List Nat) (w : World) (ha : Lim w B A n c xs) (hB : B ≤ w.heap.size) :
    Calls Tryd.prog 70 #[.agg #[.bool neg, .slice A n c]] w (RetInt w (zOf neg (val xs))) :=
  (tidy_any neg A n c B xs w ha hB).mono fun _ _ ⟨he, hb⟩ =>
    ⟨_, _, _, _, he, IsInt.mk' neg (ha.keep fun p hp => hb.cell (by omega)) (Nat.le_trans hB hb.size), hb⟩

set_option maxHeartbeats 400000 in
theorem build_any (neg : Bool) (A : Option Addr) (n c B : Nat) (xs : List Nat) (w : World) (ha : Lim w B A n c xs) (hB : B ≤ w.heap.size) :
    Calls Tryd.prog 77 #[.bool neg, .slice A n c] w (RetInt w (zOf neg (val xs))) := by
  have H := fun (W : World) (hW : Below w.heap.size w W) => tidy_ret neg A n c B xs W (ha.keep fun p hp => hW.cell (by omega)) (Nat.le_trans hB hW.size)
  have HB : Below w.heap.size w (w.alloc (.cells #[.bool false, .slice none 0 0] 28)) := (Below.refl w.heap.size w).alloc (Nat.le_refl _) _
  have H' := Lib.hid H
  clear H ha
  go_enter Tryd.func77, Tryd.ntmps77
  go_wp2_with fail
  refine (H'.out _ HB).mono ?_
  rintro e w1 ⟨neg', A', n', c', rfl, hi, hb⟩
  obtain ⟨hc, hf⟩ := bcell hb
  have hs := hb.size
  simp only [World.size_alloc] at hs hc hf
  go_wp2
  exact bodyPost_ret (v := .agg #[.bool neg', .slice A' n' c']) (by simp [results, Tryd.results77, go_sem, hc]) rfl
    ⟨_, _, _, _, rfl, hi.stored (by rw [hc _ _ (by omega)]; simp; rfl) (by rw [hc _ _ (by omega)]; simp; rfl) rfl rfl _ _, ((HB.trans (hb.mono (by simp))).setCell (by simp) _).setCell (by simp) _⟩

theorem zOf_self (z : Int) : zOf (decide (z < 0)) z.natAbs = z := by
  unfold zOf
  by_cases h : z < 0 <;> simp [h] <;> omega
theorem zOf_not (z : Int) : zOf (!decide (z < 0)) z.natAbs = -z := by
  unfold zOf
  by_cases h : z < 0 <;> simp [h] <;> omega
/-- build at limbs that are those of a number. -/
theorem build_digs (neg : Bool) (A : Option Addr) (n c v : Nat) (z : Int) (w : World) (ha : Lim w w.heap.size A n c (digs v)) (hz : zOf neg v = z) :
    Calls Tryd.prog 77 #[.bool neg, .slice A n c] w (RetInt w z) := by
  have := build_any neg A n c w.heap.size (digs v) w ha (Nat.le_refl _)
  rw [val_digs, hz] at this
  exact this
end Go.Proofs.YtclmenpclkmfeaaDoor
namespace Go.Proofs.YtclmenpclkmfeaaDoor
open Go.RowKit

set_option maxHeartbeats 400000 in
theorem clone_any (A : Option Addr) (n c B : Nat) (xs : List Nat) (w : World) (ha : Lim w B A n c xs) (hB : B ≤ w.heap.size) (hn : n ≤ 1000000) :
    Calls Tryd.prog 91 #[.slice A n c] w (RetSl w xs) := by
  rcases A with _ | ad
  · have h0 : n = 0 := by
      rcases Nat.eq_zero_or_pos n with h0 | h0
      · exact h0
      · obtain ⟨ad, h, _⟩ := ha.rd h0
        cases h
    subst h0
    have hx : xs = [] := List.eq_nil_of_length_eq_zero ha.len
    subst hx
    have qT : ∀ (w : World) (a : Option Addr) (n c n' c' : Nat), (binOp .eql 26 (.slice a n c) (.slice none n' c')).run Tryd.prog w = .ok (.bool a.isNone) w := fun w a n c n' c' => Lib.run_eql_slice_nil w 26 69 a n c n' c' Tryd.underlying26
    go_enter Tryd.func91, Tryd.ntmps91
    go_wp2
    go_ret
    exact ⟨none, 0, 0, rfl, Lim.none_ (by omega), Below.refl _ _⟩
  · have qT : ∀ (w : World) (a : Option Addr) (n c n' c' : Nat), (binOp .eql 26 (.slice a n c) (.slice none n' c')).run Tryd.prog w = .ok (.bool a.isNone) w := fun w a n c n' c' => Lib.run_eql_slice_nil w 26 69 a n c n' c' Tryd.underlying26
    go_enter Tryd.func91, Tryd.ntmps91
    go_wp2_with (at_builtin; refine wpList_append_lim _ rfl (.tmp 5) (.tmp 6) rfl w.heap.size (.slice (some ⟨w.heap.size, 0, none⟩) 0 0) 0 [] rfl ?h1 ?h2 w.heap.size (some ad) n c xs rfl ?h3 ?h4 ?h5 ?h6)
    case h1 => exact Own.empty w w.heap.size (Nat.le_refl _)
    case h2 => exact fun x hx => by simp at hx
    case h3 => exact (ha.more hB).alloc (Nat.le_refl _) _
    case h4 => omega
    case h5 => simp
    case h6 =>
      intro A' c' w1 hl ho hg
      go_wp2
      go_ret
      refine ⟨A', n, c', ?_, ?_, ?_⟩
      · simp
      · simpa using hl
      · exact ((Below.refl w.heap.size w).alloc (Nat.le_refl _) _).grown hg (by simp) (fun k hk => by cases hk; exact Nat.le_refl _)
end Go.Proofs.YtclmenpclkmfeaaDoor
namespace Go.Proofs.YtclmenpclkmfeaaDoor
open Go.RowKit
set_option maxHeartbeats 400000 in
theorem ofWord_any (x : Nat) (w : World) (hx : x < 18446744073709551616) :
    Calls Tryd.prog 78 #[.int .u64 (x : Int)] w (RetSl w (digs x)) := by
  rcases Nat.eq_zero_or_pos x with h0 | h0
  · subst h0
    rw [digs_zero]
    go_enter Tryd.func78, Tryd.ntmps78
    go_wp2
    go_ret
    exact ⟨none, 0, 0, rfl, Lim.none_ (by omega), Below.refl _ _⟩
  · have hb : ((x : Int) == 0) = false := by simp; omega
    by_cases h1 : x < 4294967296
    · have hd : digs x = [x] := by
        have := digs_cons (v := 0) h1 (by omega)
        rwa [Nat.mul_zero, Nat.add_zero, digs_zero] at this
      rw [hd]
      have hb2 : ((x : Int) / 4294967296 == 0) = true := by simp; omega
      clear hd
      go_enter Tryd.func78, Tryd.ntmps78
      go_wp2
      go_ret
      exact ⟨_, _, _, rfl, (row_new w [x] _ rfl).lim (fun z hz => by simp at hz; omega) 1 (by simp) (by omega), (Below.refl _ _).alloc (Nat.le_refl _) _⟩
    · have hd : digs x = [x % 4294967296, x / 4294967296] := by
        have h2 := digs_cons (x := x % 4294967296) (v := x / 4294967296) (by omega) (by omega)
        have h3 := digs_cons (x := x / 4294967296) (v := 0) (by omega) (by omega)
        rw [Nat.mul_zero, Nat.add_zero, digs_zero] at h3
        rw [show x % 4294967296 + 4294967296 * (x / 4294967296) = x by omega, h3] at h2
        exact h2
      rw [hd]
      have hb2 : ((x : Int) / 4294967296 == 0) = false := by simp; omega
      clear hd
      go_enter Tryd.func78, Tryd.ntmps78
      go_wp2
      go_ret
      exact ⟨_, _, _, rfl, (row_new w [x % 4294967296, x / 4294967296] _ (by simp [ints])).lim (fun z hz => by simp at hz; omega) 2 (by simp) (by omega), (Below.refl _ _).alloc (Nat.le_refl _) _⟩
end Go.Proofs.YtclmenpclkmfeaaDoor
namespace Go.Proofs.YtclmenpclkmfeaaDoor
open Go.RowKit
/-- A result that was stored into a new struct of the call's own. -/
theorem RetInt.stored {w W w1 : World} {neg : Bool} {A : Option Addr} {n c g : Nat} {z : Int} {a0 a1 : Value} (hi : IsInt w1 neg A n c z) (hW : Below w.heap.size w W) (hb : Below W.heap.size W w1) (hg : w.heap.size ≤ g)
    (h0 : w1.cell? ⟨g, 0, none⟩ = some a0) (h1 : w1.cell? ⟨g, 1, none⟩ = some a1) (n0 : noLimb a0 = true) (n1 : noLimb a1 = true) :
    RetInt w z (.returned (.agg #[.bool neg, .slice A n c])) ((w1.setCell ⟨g, 0, none⟩ (.bool neg)).setCell ⟨g, 1, none⟩ (.slice A n c)) :=
  ⟨_, _, _, _, rfl, hi.stored h0 h1 n0 n1 _ _, ((hW.trans (hb.mono hW.size)).setCell hg _).setCell hg _⟩
set_option maxHeartbeats 400000 in
theorem of_any (n : Int) (w : World) (h1 : -9223372036854775808 ≤ n) (h2 : n ≤ 9223372036854775807) :
    Calls Tryd.prog 56 #[.int .i64 n] w (RetInt w n) := by
  by_cases h0 : n < 0
  · have H1 := fun W => ofWord_any n.natAbs W (by omega)
    have H2 := fun A k c W h => build_digs true A k c n.natAbs n W h (by unfold zOf; simp; omega)
    have HW := Lib.hid (wrap_neg_wrap n h1 h0)
    have H1' := Lib.hid H1
    have H2' := Lib.hid H2
    clear H1 H2
    go_enter Tryd.func56, Tryd.ntmps56
    go_wp2_with fail
    rw [HW.out]
    refine (H1'.out _).mono ?_
    rintro e w1 ⟨A1, n1, c1, rfl, hl1, hb1⟩
    have S0 := Lib.hid ((Slot2.new w (.bool false) (.slice none 0 0) 28).after hb1)
    go_wp2_with fail
    refine (H2'.out _ _ _ _ hl1).mono ?_
    rintro e w2 ⟨neg2, A2, n2, c2, rfl, hi2, hb2⟩
    obtain ⟨k0, k1, f0, f1, _⟩ := S0.out.after hb2
    go_wp2
    exact bodyPost_ret (v := .agg #[.bool neg2, .slice A2 n2 c2]) (by simp [results, Tryd.results56, go_sem, k0, k1]) rfl
      (RetInt.stored hi2 (((Below.refl _ _).alloc (Nat.le_refl _) _).trans (hb1.mono (by simp))) hb2 (Nat.le_refl _) k0 k1 rfl rfl)
  · obtain ⟨n, rfl⟩ := Int.eq_ofNat_of_zero_le (show 0 ≤ n by omega)
    have H1 := fun W => ofWord_any n W (by omega)
    have H2 := fun A k c W h => build_digs false A k c n n W h rfl
    have H1' := Lib.hid H1
    have H2' := Lib.hid H2
    clear H1 H2
    go_enter Tryd.func56, Tryd.ntmps56
    go_wp2_with fail
    refine (H1'.out _).mono ?_
    rintro e w1 ⟨A1, n1, c1, rfl, hl1, hb1⟩
    have S0 := Lib.hid ((Slot2.new w (.bool false) (.slice none 0 0) 28).after hb1)
    go_wp2_with fail
    refine (H2'.out _ _ _ _ hl1).mono ?_
    rintro e w2 ⟨neg2, A2, n2, c2, rfl, hi2, hb2⟩
    obtain ⟨k0, k1, f0, f1, _⟩ := S0.out.after hb2
    go_wp2
    exact bodyPost_ret (v := .agg #[.bool neg2, .slice A2 n2 c2]) (by simp [results, Tryd.results56, go_sem, k0, k1]) rfl
      (RetInt.stored hi2 (((Below.refl _ _).alloc (Nat.le_refl _) _).trans (hb1.mono (by simp))) hb2 (Nat.le_refl _) k0 k1 rfl rfl)

set_option maxHeartbeats 400000 in
theorem neg_any (neg : Bool) (A : Option Addr) (n c : Nat) (z : Int) (w : World) (ha : IsInt w neg A n c z) (hn : n ≤ 1000000) :
    Calls Tryd.prog 90 #[.agg #[.bool neg, .slice A n c]] w (RetInt w (-z)) := by
  have H1 := fun W (hW : Below w.heap.size w W) => clone_any A n c w.heap.size (digs z.natAbs) W (ha.lim.below hW) hW.size hn
  have H2 := fun A k c W h => build_digs (!neg) A k c z.natAbs (-z) W h (by rw [ha.sign]; exact zOf_not z)
  have H1' := Lib.hid H1
  have H2' := Lib.hid H2
  clear H1 H2
  obtain ⟨HB, P0, R0⟩ := frame11 w (.bool neg) (.slice A n c)
  go_enter Tryd.func90, Tryd.ntmps90
  go_wp2_with fail
  go_region_held3 (fun W => W.cell? ⟨w.heap.size, 0, none⟩ = some (.bool neg) ∧ W.cell? ⟨w.heap.size, 1, none⟩ = some (.slice A n c)) (first | go_keep | exact ⟨P1.1, P1.2.1⟩ | exact ⟨P2.1, P2.2.1⟩)
    (first | (go_at_call 91; refine (H1'.out _ ?_).mono ?_; (first | exact HB | exact HB.drew | exact Below.drewN' HB _); rintro e w1 ⟨A1, n1, c1, rfl, hl1, hb1⟩; have B1 := Below.trans (by first | exact HB | exact HB.drew | exact Below.drewN' HB _) (hb1.mono HB.size); have P1 := Slot2.after (by first | exact P0 | exact P0.drew | exact P0.drewN _) hb1; have R1 := Slot2.after (by first | exact R0 | exact R0.drew | exact R0.drewN _) hb1) | (go_at_call 77; refine (H2'.out _ _ _ _ hl1).mono ?_; rintro e w2 ⟨neg2, A2, n2, c2, rfl, hi2, hb2⟩; have P2 := P1.after hb2; obtain ⟨k0, k1, f0, f1, _⟩ := R1.after hb2))
  go_wp2
  exact bodyPost_ret (v := .agg #[.bool neg2, .slice A2 n2 c2]) (by simp [results, Tryd.results90, go_sem, k0, k1]) rfl
    (RetInt.stored hi2 B1 hb2 (by omega) k0 k1 rfl rfl)

set_option maxHeartbeats 400000 in
theorem abs_any (neg : Bool) (A : Option Addr) (n c : Nat) (z : Int) (w : World) (ha : IsInt w neg A n c z) (hn : n ≤ 1000000) :
    Calls Tryd.prog 61 #[.agg #[.bool neg, .slice A n c]] w (RetInt w (z.natAbs : Int)) := by
  have H1 := fun W (hW : Below w.heap.size w W) => clone_any A n c w.heap.size (digs z.natAbs) W (ha.lim.below hW) hW.size hn
  have H2 := fun A k c W h => build_digs false A k c z.natAbs (z.natAbs : Int) W h rfl
  have H1' := Lib.hid H1
  have H2' := Lib.hid H2
  clear H1 H2
  obtain ⟨HB, P0, R0⟩ := frame11 w (.bool neg) (.slice A n c)
  go_enter Tryd.func61, Tryd.ntmps61
  go_wp2_with fail
  refine (H1'.out _ HB).mono ?_
  rintro e w1 ⟨A1, n1, c1, rfl, hl1, hb1⟩
  have B1 := HB.trans (hb1.mono HB.size)
  have R1 := R0.after hb1
  go_wp2_with fail
  refine (H2'.out _ _ _ _ hl1).mono ?_
  rintro e w2 ⟨neg2, A2, n2, c2, rfl, hi2, hb2⟩
  obtain ⟨k0, k1, f0, f1, _⟩ := R1.after hb2
  go_wp2
  exact bodyPost_ret (v := .agg #[.bool neg2, .slice A2 n2 c2]) (by simp [results, Tryd.results61, go_sem, k0, k1]) rfl
    (RetInt.stored hi2 B1 hb2 (by omega) k0 k1 rfl rfl)

end Go.Proofs.YtclmenpclkmfeaaDoor
