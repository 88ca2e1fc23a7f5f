/- Plain mathematics: sizes of products and powers, Newton's iteration. Contract of crt.natural for what fits into an int64. A rule for a region in one order: operations that may be taken first, single operations that alone may come up, and pairs that may come up in either order. Conditions: as the theorem states. Mathematics of fractions: what the program and the reference compute, as rational numbers of the core library. Plain mathematics of an estimate of a quotient by the highest limbs. Plain mathematics of long division: the estimate by the highest limbs, and one step of the subtraction. Contract of integer.estimate. Contracts of integer.groupText and divideInPlace. Contracts of integer.subtractMultiple and addBack: in a block of limbs, at an offset. -/
import Derived.Test.YtclmenpclkmfeaaDoorVG0Words
import Derived.Test.YtclmenpclkmfeaaDoorVG1CrtMap
import Derived.Deep.RegionHeld3
namespace Go.Proofs.YtclmenpclkmfeaaDoor
theorem digs_len_mul (x y : Nat) : (digs (x * y)).length ≤ (digs x).length + (digs y).length := by
  apply digs_len_le
  rw [Nat.pow_add]
  rcases Nat.eq_zero_or_pos y with h | h
  · subst h
    rw [Nat.mul_zero]
    exact Nat.mul_pos (Nat.pow_pos (by omega)) (Nat.pow_pos (by omega))
  · exact Nat.lt_of_lt_of_le (Nat.mul_lt_mul_of_pos_right (lt_digs_len x) h) (Nat.mul_le_mul_left _ (Nat.le_of_lt (lt_digs_len y)))
theorem digs_len_pow (x k : Nat) : (digs (x ^ k)).length ≤ k * (digs x).length + 1 := by
  induction k with
  | zero => rw [Nat.pow_zero]; exact Nat.le_trans (digs_len_le (k := 1) (by omega)) (by omega)
  | succ k ih =>
    rw [Nat.pow_succ, Nat.succ_mul]
    have := digs_len_mul (x ^ k) x
    omega
theorem digs_len_lt {k v : Nat} (h : 4294967296 ^ k ≤ v) : k < (digs v).length := by
  rcases Nat.lt_or_ge k (digs v).length with h1 | h1
  · exact h1
  · have h2 := lt_digs_len v
    have h3 : 4294967296 ^ (digs v).length ≤ 4294967296 ^ k := Nat.pow_le_pow_right (by omega) h1
    omega
/-- Limbs of the least length for their value are those of the value. -/
theorem eq_digs {xs : List Nat} (h : Limbs xs) (hl : xs.length ≤ (digs (val xs)).length) : xs = digs (val xs) := by
  have := digs_eq_take h
  rw [List.take_of_length_le hl] at this
  exact this.symm
theorem sq_lt_sq {a b : Nat} (h : a * a < b * b) : a < b := by
  rcases Nat.lt_or_ge a b with h1 | h1
  · exact h1
  · have := Nat.mul_le_mul h1 h1; omega
/-- The step of Newton's iteration stays above the root. -/
theorem newton_step {a r q : Nat} (h : a < r * (q + 1)) : a < ((r + q) / 2 + 1) * ((r + q) / 2 + 1) := by
  have h1 : r + q + 1 ≤ 2 * ((r + q) / 2 + 1) := by omega
  generalize (r + q) / 2 + 1 = m at *
  have h2 : (r + (q + 1)) * (r + (q + 1)) ≤ (2 * m) * (2 * m) := Nat.mul_le_mul h1 h1
  have h3 : (2 * m) * (2 * m) = 4 * (m * m) := by rw [Nat.mul_mul_mul_comm]
  have h4 : 4 * (r * (q + 1)) ≤ (r + (q + 1)) * (r + (q + 1)) := by
    rcases Nat.le_total r (q + 1) with e | e
    · obtain ⟨d, hd⟩ := Nat.le.dest e
      rw [← hd]
      have : (r + (r + d)) * (r + (r + d)) = 4 * (r * (r + d)) + d * d := by
        have e1 : r + (r + d) = 2 * r + d := by omega
        rw [e1, Nat.mul_add, Nat.add_mul, Nat.add_mul, Nat.mul_add]
        have e2 : 2 * r * (2 * r) = 4 * (r * r) := by rw [Nat.mul_mul_mul_comm]
        have e3 : 2 * r * d = 2 * (r * d) := by rw [Nat.mul_assoc]
        have e4 : d * (2 * r) = 2 * (r * d) := by rw [Nat.mul_comm, Nat.mul_assoc]
        rw [e2, e3, e4]; omega
      omega
    · obtain ⟨d, hd⟩ := Nat.le.dest e
      generalize q + 1 = u at *
      subst hd
      have : (u + d + u) * (u + d + u) = 4 * ((u + d) * u) + d * d := by
        have e1 : u + d + u = 2 * u + d := by omega
        rw [e1, Nat.mul_add, Nat.add_mul, Nat.add_mul, Nat.add_mul]
        have e2 : 2 * u * (2 * u) = 4 * (u * u) := by rw [Nat.mul_mul_mul_comm]
        have e3 : 2 * u * d = 2 * (d * u) := by rw [Nat.mul_assoc, Nat.mul_comm u d]
        have e4 : d * (2 * u) = 2 * (d * u) := by rw [Nat.mul_comm, Nat.mul_assoc, Nat.mul_comm u d]
        rw [e2, e3, e4]; omega
      omega
  omega
end Go.Proofs.YtclmenpclkmfeaaDoor
namespace Go.Proofs.YtclmenpclkmfeaaDoor
open Go.RowKit
set_option maxHeartbeats 1000000 in
theorem natural_z (n : Nat) (w : World) (hn : n ≤ 9223372036854775807) :
    Calls Tryd.prog 63 #[.int .u64 (n : Int)] w (RetInt w (n : Int)) := by
  have B0 := (Below.refl w.heap.size w).alloc (Nat.le_refl _) (.cells #[.bool false, .slice none 0 0] 28)
  have R0 := Slot2.new w (.bool false) (.slice none 0 0) 28
  have hle : (n : Int) ≤ 9223372036854775807 := by omega
  have i1 : IntKind.i64.wrap (n : Int) = (n : Int) := by rw [IntKind.wrap_i64]; omega
  have HN := Lib.hid hn
  clear hn
  go_enter Tryd.func63, Tryd.ntmps63
  go_wp2_with fail
  (with_reducible refine (of_any (n : Int) _ (by have := HN.out; omega) (by have := HN.out; omega)).mono ?_)
  rintro e w1 ⟨g5, A5, n5, c5, rfl, hi5, hb1⟩
  have R1 := R0.after hb1
  have B1 := B0.trans (hb1.mono B0.size)
  clear R0 B0 hb1
  have ⟨q0, q1, q2, q3, _⟩ := R1
  go_wp2
  exact bodyPost_ret (v := .agg #[.bool g5, .slice A5 n5 c5]) (by simp [results, Tryd.results63, go_sem, q0, q1]) rfl ⟨_, _, _, _, rfl, hi5.stored q0 q1 rfl rfl _ _, Below.set2 B1 (by omega) _ _⟩
end Go.Proofs.YtclmenpclkmfeaaDoor
namespace Go.Proofs.YtclmenpclkmfeaaDoor
open Go.RowKit
/-- A way through a region: i alone comes up (one); i is taken first (take); i or m comes up (two). -/
inductive Way where
  | done
  | one (i : Nat) (t : Way)
  | take (i : Nat) (t : Way)
  | two (i : Nat) (t : Way) (m : Nat) (u : Way)
/-- (i, true): taken first; (i, false): alone. -/
def Way.pre : List (Nat × Bool) → Way → Way
  | [], t => t
  | (i, true) :: l, t => .take i (Way.pre l t)
  | (i, false) :: l, t => .one i (Way.pre l t)
def wpSeqH (P : Program) (ops : Array Oper) (Q : Exit → Act → World → Prop) (S : World → Prop) : Way → Act → World → Prop
  | .done, a, w => Q .normal a w
  | .one i t, a, w => wpOp P ops Q i (fun a' w' => S w' ∧ (S w' → wpSeqH P ops Q S t a' w')) a w
  | .take i t, a, w => ∃ o v, ops[i]? = some o ∧ YieldsIf P ops S o v a ∧ wpSeqH P ops Q S t (a.put o.dst v) w
  | .two i t m u, a, w => wpOp P ops Q i (fun a' w' => S w' ∧ (S w' → wpSeqH P ops Q S t a' w')) a w ∧ wpOp P ops Q m (fun a' w' => S w' ∧ (S w' → wpSeqH P ops Q S u a' w')) a w
def Way.len : Way → Nat
  | .done => 0
  | .one _ t => t.len + 1
  | .take _ t => t.len + 1
  | .two _ t _ _ => t.len + 1
def chkSeq (ops : Array Oper) : Way → Array Bool → Bool
  | .done, listed => (Region.ready .any ops listed).isEmpty
  | .one i t, listed => decide (Region.ready .any ops listed = [i]) && chkSeq ops t (listed.setIfInBounds i true)
  | .take i t, listed => (Region.ready .any ops listed).contains i && Region.free .any ops listed i && chkSeq ops t (listed.setIfInBounds i true)
  | .two i t m u, listed => decide (Region.ready .any ops listed = [i, m]) && decide (t.len = u.len) && chkSeq ops t (listed.setIfInBounds i true) && chkSeq ops u (listed.setIfInBounds m true)
theorem wpAnyH_seq {P : Program} {ops : Array Oper} {Q : Exit → Act → World → Prop} {S : World → Prop} (hs : Region.noSelect ops = true) (hQ : ∀ (c : _) (a : Act) (d : Option Tmp) (v : Value) (w : World), Q (.panic c) (a.put d v) w → Q (.panic c) a w) :
    ∀ (l : Way) (listed : Array Bool) (a : Act) (w : World), chkSeq ops l listed = true → S w → wpSeqH P ops Q S l a w → wpAnyH P .any ops Q S l.len listed a w
  | .done, listed, a, w, hc, _, h => wpAnyH_done (by simpa [chkSeq] using hc) h _
  | .one i l, listed, a, w, hc, hS, h => by
    simp only [chkSeq, Bool.and_eq_true, decide_eq_true_eq] at hc
    refine wpAnyH_all hc.1 (by simp) fun j hj => ?_
    obtain rfl : j = i := by simpa using hj
    exact wpOp_mono (fun a' w' h' => ⟨h'.1, wpAnyH_seq hs hQ l _ _ _ hc.2 h'.1 (h'.2 h'.1)⟩) h
  | .take i l, listed, a, w, hc, hS, h => by
    simp only [chkSeq, Bool.and_eq_true] at hc
    obtain ⟨o, v, ho, hy, h⟩ := h
    exact wpAnyH_take ho hs hc.1.2 hc.1.1 (fun c a w => hQ c a _ _ w) hy hS (wpAnyH_seq hs hQ l _ _ _ hc.2 hS h)
  | .two i l m u, listed, a, w, hc, hS, h => by
    simp only [chkSeq, Bool.and_eq_true, decide_eq_true_eq] at hc
    obtain ⟨⟨⟨hr, hl⟩, hc1⟩, hc2⟩ := hc
    refine wpAnyH_all hr (by simp) fun j hj => ?_
    have hj' : j = i ∨ j = m := by simpa using hj
    rcases hj' with rfl | rfl
    · exact wpOp_mono (fun a' w' h' => ⟨h'.1, wpAnyH_seq hs hQ l _ _ _ hc1 h'.1 (h'.2 h'.1)⟩) h.1
    · rw [hl]
      exact wpOp_mono (fun a' w' h' => ⟨h'.1, wpAnyH_seq hs hQ u _ _ _ hc2 h'.1 (h'.2 h'.1)⟩) h.2
theorem wp_region_seq {P : Program} {ops : Array Oper} {id : Nat} {Q : Exit → Act → World → Prop} {a : Act} {w : World} (l : Way) (S : World → Prop) (hm : P.follows .mixedOrders = true) (hs : Region.noSelect ops = true)
    (hc : chkSeq ops l (Array.replicate ops.size false) = true) (hl : l.len = ops.size) (hS : S w.drew) (h : wpSeqH P ops (NoPanic Q) S l a w.drew) : (Code.region id ops true).wp P Q a w := by
  refine wp_region_noPanic (wp_region_held_drew (S := S) hm hS fun _ => ?_)
  have := wpAnyH_seq hs (fun c a d v w h => (h : False).elim) l _ a w.drew hc hS h
  rwa [hl] at this
/-- The step of an operation that is taken first. (The operations as a list: so that the one at hand is found written out.) -/
theorem seq_take {P : Program} {L : List Oper} {Q : Exit → Act → World → Prop} {S : World → Prop} {i : Nat} {l : Way} {a : Act} {w : World} (o : Oper) (v : Value) (ho : L[i]? = some o) (hy : YieldsIf P L.toArray S o v a)
    (h : wpSeqH P L.toArray Q S l (a.put o.dst v) w) : wpSeqH P L.toArray Q S (.take i l) a w := ⟨o, v, by simpa using ho, hy, h⟩
/-- The step of a single operation: S is shown anew behind it. -/
theorem seq_one {P : Program} {L : List Oper} {Q : Exit → Act → World → Prop} {S : World → Prop} {i : Nat} {l : Way} {a : Act} {w : World} (o : Oper) (ho : L[i]? = some o)
    (h : ∀ K : Act → World → Prop, Shut (∀ a w, S w → (S w → wpSeqH P L.toArray Q S l a w) → K a w) → if Region.wanted o (yielded L.toArray a.tmps) = true then Oper.wp P o a w K Q else K (a.put o.dst undef) w) :
    wpSeqH P L.toArray Q S (.one i l) a w :=
  wpOp_step (o := o) (by simpa using ho) fun K hK => h K fun a w hS hW => hK a w ⟨hS, hW⟩
/-- The step of a pair. -/
theorem seq_two {P : Program} {L : List Oper} {Q : Exit → Act → World → Prop} {S : World → Prop} {i m : Nat} {l u : Way} {a : Act} {w : World}
    (h1 : wpSeqH P L.toArray Q S (.one i l) a w) (h2 : wpSeqH P L.toArray Q S (.one m u) a w) : wpSeqH P L.toArray Q S (.two i l m u) a w := ⟨h1, h2⟩
/-- The check in pieces. -/
def chkPre (ops : Array Oper) : List (Nat × Bool) → Array Bool → Bool
  | [], _ => true
  | (i, true) :: l, listed => (Region.ready .any ops listed).contains i && Region.free .any ops listed i && chkPre ops l (listed.setIfInBounds i true)
  | (i, false) :: l, listed => decide (Region.ready .any ops listed = [i]) && chkPre ops l (listed.setIfInBounds i true)
def aft : List (Nat × Bool) → Array Bool → Array Bool
  | [], listed => listed
  | (i, _) :: l, listed => aft l (listed.setIfInBounds i true)
theorem chk_pre {ops : Array Oper} : ∀ (l : List (Nat × Bool)) (t : Way) (listed : Array Bool), chkPre ops l listed = true → chkSeq ops t (aft l listed) = true → chkSeq ops (.pre l t) listed = true
  | [], _, _, _, h => h
  | (i, true) :: l, t, listed, h1, h2 => by
    simp only [chkPre, Bool.and_eq_true] at h1
    simp only [Way.pre, chkSeq, Bool.and_eq_true]
    exact ⟨h1.1, chk_pre l t _ h1.2 h2⟩
  | (i, false) :: l, t, listed, h1, h2 => by
    simp only [chkPre, Bool.and_eq_true] at h1
    simp only [Way.pre, chkSeq, Bool.and_eq_true]
    exact ⟨h1.1, chk_pre l t _ h1.2 h2⟩
theorem chk_two {ops : Array Oper} (i : Nat) (t : Way) (m : Nat) (u : Way) (listed : Array Bool) (h : (decide (Region.ready .any ops listed = [i, m]) && decide (t.len = u.len)) = true) (h1 : chkSeq ops t (listed.setIfInBounds i true) = true) (h2 : chkSeq ops u (listed.setIfInBounds m true) = true) :
    chkSeq ops (.two i t m u) listed = true := by
  simp only [chkSeq, Bool.and_eq_true] at h ⊢
  exact ⟨⟨h, h1⟩, h2⟩
/-- A region's operations, taken out of a function. -/
def opsOf : Code → List Oper
  | .region _ ops _ => ops.toList
  | _ => []
end Go.Proofs.YtclmenpclkmfeaaDoor
namespace Go.Proofs.YtclmenpclkmfeaaDoor
/-- What Of computes: the divisor carries the sign of the denominator. -/
theorem q_num (n d : Int) (hd : d ≠ 0) : n / (if d < 0 then -((Nat.gcd n.natAbs d.natAbs : Nat) : Int) else ((Nat.gcd n.natAbs d.natAbs : Nat) : Int)) = (Rat.divInt n d).num := by
  rw [Rat.num_divInt]
  have hg : Int.gcd d n = Nat.gcd n.natAbs d.natAbs := by rw [Int.gcd_comm]; rfl
  rw [hg]
  have hdv : ((Nat.gcd n.natAbs d.natAbs : Nat) : Int) ∣ n := Int.ofNat_dvd_left.2 (Nat.gcd_dvd_left _ _)
  split
  · rename_i h
    rw [Int.sign_eq_neg_one_of_neg h, Int.neg_one_mul, Int.ediv_neg, Int.neg_ediv_of_dvd hdv]
  · rename_i h
    rw [Int.sign_eq_one_of_pos (by omega), Int.one_mul]
theorem q_den (n d : Int) (hd : d ≠ 0) : d / (if d < 0 then -((Nat.gcd n.natAbs d.natAbs : Nat) : Int) else ((Nat.gcd n.natAbs d.natAbs : Nat) : Int)) = ((Rat.divInt n d).den : Int) := by
  rw [Rat.den_divInt, if_neg hd]
  have hg : Int.gcd d n = Nat.gcd n.natAbs d.natAbs := by rw [Int.gcd_comm]; rfl
  rw [hg]
  have hdv : ((Nat.gcd n.natAbs d.natAbs : Nat) : Int) ∣ d := Int.ofNat_dvd_left.2 (Nat.gcd_dvd_right _ _)
  generalize Nat.gcd n.natAbs d.natAbs = g at *
  rw [Int.natCast_ediv]
  split
  · rename_i h
    rw [Int.ediv_neg, ← Int.neg_ediv_of_dvd hdv, show ((d.natAbs : Nat) : Int) = -d by omega]
  · rename_i h
    rw [show ((d.natAbs : Nat) : Int) = d by omega]
/-- What the reference's Of computes: both signs change first. -/
theorem r_num (n d : Int) (hd : 0 < d) : n / ((Nat.gcd n.natAbs d.natAbs : Nat) : Int) = (Rat.divInt n d).num := by
  have := q_num n d (by omega)
  rwa [if_neg (by omega)] at this
theorem r_den (n d : Int) (hd : 0 < d) : d / ((Nat.gcd n.natAbs d.natAbs : Nat) : Int) = ((Rat.divInt n d).den : Int) := by
  have := q_den n d (by omega)
  rwa [if_neg (by omega)] at this
theorem q_add (a b : Rat) : Rat.divInt (a.num * b.den + b.num * a.den) (a.den * b.den) = a + b := by
  rw [Rat.add_def', ← Rat.divInt_ofNat, Int.natCast_mul]
theorem q_sub (a b : Rat) : Rat.divInt (a.num * b.den + -b.num * a.den) (a.den * b.den) = a - b := by
  rw [Rat.sub_eq_add_neg, ← q_add, Rat.neg_num, Rat.neg_den]
theorem q_mul (a b : Rat) : Rat.divInt (a.num * b.num) (a.den * b.den) = a * b := by
  rw [Rat.mul_def', ← Rat.divInt_ofNat, Int.natCast_mul]
theorem q_div (a b : Rat) : Rat.divInt (a.num * b.den) (a.den * b.num) = a / b := by
  rw [Rat.div_def, Rat.inv_def]
  conv => rhs; lhs; rw [← Rat.num_divInt_den a]
  rw [Rat.divInt_mul_divInt]
theorem q_floor (n d : Int) (hd : 0 < d) : (Rat.divInt n d).floor = n / d := by
  rw [Rat.floor_def, ← q_num n d (by omega), ← q_den n d (by omega), if_neg (by omega)]
  have hg : 0 < Nat.gcd n.natAbs d.natAbs := Nat.gcd_pos_of_pos_right _ (by omega)
  have h1 : ((Nat.gcd n.natAbs d.natAbs : Nat) : Int) ∣ n := Int.ofNat_dvd_left.2 (Nat.gcd_dvd_left _ _)
  have h2 : ((Nat.gcd n.natAbs d.natAbs : Nat) : Int) ∣ d := Int.ofNat_dvd_left.2 (Nat.gcd_dvd_right _ _)
  generalize Nat.gcd n.natAbs d.natAbs = g at *
  obtain ⟨n', rfl⟩ := h1
  obtain ⟨d', rfl⟩ := h2
  rw [Int.mul_ediv_cancel_left _ (by omega), Int.mul_ediv_cancel_left _ (by omega), Int.mul_ediv_mul_of_pos _ _ (by omega)]
theorem q_round (a : Rat) : (a.num * 2 + 1 * a.den) / (a.den * 2) = (a + Rat.divInt 1 2).floor := by
  have h : a + Rat.divInt 1 2 = Rat.divInt (a.num * 2 + 1 * a.den) (a.den * 2) := by
    conv => lhs; lhs; rw [← Rat.num_divInt_den a]
    rw [Rat.divInt_add_divInt _ _ (by have := a.den_nz; omega) (by decide)]
  have := a.den_pos
  rw [h, q_floor _ _ (by omega)]
/-- The reference's Cmp and the program's. -/
theorem q_cmp (a b : Rat) : (a.num * b.den - b.num * a.den < 0 ↔ a < b) ∧ (a.num * b.den - b.num * a.den = 0 ↔ a = b) := by
  constructor
  · rw [Rat.lt_iff]; omega
  · rw [Rat.eq_iff_mul_eq_mul]; omega
/-- The field's axioms in the form of the law. -/
theorem f_sub (a b : Rat) : a + b - b = a := Rat.add_sub_cancel
theorem f_div (a b : Rat) (hb : b ≠ 0) : a * b / b = a := Rat.mul_div_cancel hb
theorem q_ext (a b : Rat) : a.num = b.num → (a.den : Int) = b.den → a = b := fun h1 h2 => Rat.ext h1 (by omega)
/-- Lengths: numerator and denominator of a result are not longer than what goes in. -/
theorem q_num_le (n d : Int) : (Rat.divInt n d).num.natAbs ≤ n.natAbs := by
  rcases Int.lt_trichotomy d 0 with h | h | h
  · rw [← q_num n d (by omega), if_pos h, Int.natAbs_ediv_of_dvd (Int.neg_dvd.2 (Int.ofNat_dvd_left.2 (Nat.gcd_dvd_left _ _)))]
    exact Nat.div_le_self _ _
  · subst h; simp
  · rw [← q_num n d (by omega), if_neg (by omega), Int.natAbs_ediv_of_dvd (Int.ofNat_dvd_left.2 (Nat.gcd_dvd_left _ _))]
    exact Nat.div_le_self _ _
theorem q_den_le (n d : Int) (hd : d ≠ 0) : (Rat.divInt n d).den ≤ d.natAbs := by
  rw [Rat.den_divInt, if_neg hd]; exact Nat.div_le_self _ _
end Go.Proofs.YtclmenpclkmfeaaDoor
namespace Go.Proofs.YtclmenpclkmfeaaDoor
theorem val_split (xs : List Nat) (k : Nat) (h : k ≤ xs.length) : val xs = val (xs.take k) + 4294967296 ^ k * val (xs.drop k) := by
  have := val_append (xs.take k) (xs.drop k)
  rwa [List.take_append_drop, List.length_take, Nat.min_eq_left h] at this
theorem top_lt {xs : List Nat} {m : Nat} (hl : Limbs xs) (h : xs.length = m + 1) : val xs < 4294967296 ^ m * (xs.getD m 0 + 1) := by
  have h1 := val_take_succ xs m
  rw [List.take_of_length_le (by omega)] at h1
  have h2 := val_lt (limbs_take hl m)
  rw [List.length_take, Nat.min_eq_left (by omega)] at h2
  rw [Nat.mul_add]; omega
theorem top_le {xs : List Nat} {m : Nat} (h : xs.length = m + 1) : 4294967296 ^ m * xs.getD m 0 ≤ val xs := by
  have h1 := val_take_succ xs m
  rw [List.take_of_length_le (by omega)] at h1
  omega
theorem top2_le {xs : List Nat} {m : Nat} (h : xs.length = m + 2) : 4294967296 ^ m * (xs.getD (m + 1) 0 * 4294967296 + xs.getD m 0) ≤ val xs := by
  have h1 := val_take_succ xs (m + 1)
  rw [List.take_of_length_le (by omega)] at h1
  have h2 := val_take_succ xs m
  rw [Nat.pow_succ] at h1
  rw [Nat.mul_add, Nat.mul_comm (xs.getD (m + 1) 0), ← Nat.mul_assoc]
  omega
/-- The estimate at equal lengths. -/
theorem est_zero {r d m : Nat} (hr : (digs r).length = m + 1) (hd : (digs d).length = m + 1) (hdr : d ≤ r) : max 1 ((digs r).getD m 0 / ((digs d).getD m 0 + 1)) * d ≤ r := by
  have h1 := top_lt (limbs_digs d) hd
  have h2 := top_le hr
  rw [val_digs] at h1 h2
  generalize (digs r).getD m 0 = x at *
  generalize (digs d).getD m 0 + 1 = y at *
  rcases Nat.le_total (x / y) 1 with h | h
  · rw [Nat.max_eq_left h, Nat.one_mul]; exact hdr
  · rw [Nat.max_eq_right h]
    have h3 : x / y * y ≤ x := Nat.div_mul_le_self x y
    have h4 : x / y * d ≤ x / y * (4294967296 ^ m * y) := Nat.mul_le_mul_left _ (Nat.le_of_lt h1)
    have h5 : 4294967296 ^ m * (x / y * y) ≤ 4294967296 ^ m * x := Nat.mul_le_mul_left _ h3
    rw [Nat.mul_left_comm] at h4
    omega
/-- The estimate where the dividend is longer. -/
theorem est_more {r d m k : Nat} (hr : (digs r).length = m + 1 + (k + 1)) (hd : (digs d).length = m + 1) :
    1 ≤ ((digs r).getD (m + k + 1) 0 * 4294967296 + (digs r).getD (m + k) 0) / ((digs d).getD m 0 + 1) ∧
    ((digs r).getD (m + k + 1) 0 * 4294967296 + (digs r).getD (m + k) 0) / ((digs d).getD m 0 + 1) * 4294967296 ^ k * d ≤ r := by
  have h1 := top_lt (limbs_digs d) hd
  have h2 := top2_le (xs := digs r) (m := m + k) (by omega)
  have hx : 1 ≤ (digs r).getD (m + k + 1) 0 := by
    have hne : digs r ≠ [] := by intro e; rw [e] at hr; simp at hr
    have h3 := digs_last (n := r) hne
    rw [List.getLast_eq_getElem] at h3
    rw [List.getD_eq_getElem?_getD, List.getElem?_eq_getElem (by omega)]
    have e : (digs r).length - 1 = m + k + 1 := by omega
    simp only [e] at h3
    simp only [Option.getD_some]
    omega
  have hy : (digs d).getD m 0 < 4294967296 := by
    rw [List.getD_eq_getElem?_getD, List.getElem?_eq_getElem (by omega)]
    exact limbs_digs d _ (List.getElem_mem _)
  rw [val_digs] at h1 h2
  generalize (digs r).getD (m + k + 1) 0 = x at *
  generalize (digs r).getD (m + k) 0 = x2 at *
  generalize hY : (digs d).getD m 0 + 1 = y at *
  refine ⟨?_, ?_⟩
  · rw [Nat.le_div_iff_mul_le (by omega)]; omega
  · generalize hX : x * 4294967296 + x2 = X at *
    have h3 : X / y * y ≤ X := Nat.div_mul_le_self X y
    have h4 : X / y * 4294967296 ^ k * d ≤ X / y * 4294967296 ^ k * (4294967296 ^ m * y) := Nat.mul_le_mul_left _ (Nat.le_of_lt h1)
    have h5 : 4294967296 ^ (m + k) * (X / y * y) ≤ 4294967296 ^ (m + k) * X := Nat.mul_le_mul_left _ h3
    have e : X / y * 4294967296 ^ k * (4294967296 ^ m * y) = 4294967296 ^ (m + k) * (X / y * y) := by
      rw [Nat.pow_add]
      simp only [Nat.mul_comm, Nat.mul_left_comm, Nat.mul_assoc]
    omega
end Go.Proofs.YtclmenpclkmfeaaDoor
namespace Go.Proofs.YtclmenpclkmfeaaDoor
/-- What the estimate of a quotient's limb is: the quotient of the three highest limbs by two, but less than 2^32. -/
def estN (u v : Nat) : Nat := min 4294967295 (u / v)
theorem estN_of {u v g : Nat} (hv : 0 < v) (h1 : g ≤ 4294967295) (h2 : g * v ≤ u) (h3 : estN u v ≤ g) : g = estN u v := by
  have h4 : g ≤ u / v := (Nat.le_div_iff_mul_le hv).2 h2
  unfold estN at *; omega
theorem estN_lt {u v g : Nat} (hv : 0 < v) (h : 4294967295 < g ∨ u < g * v) : estN u v ≤ g - 1 := by
  unfold estN
  rcases h with h | h
  · omega
  · have : u / v < g := (Nat.div_lt_iff_lt_mul hv).2 h
    omega
/-- A dividend A = U P + l and a divisor D = V P + m: the estimate is the quotient or one more. -/
theorem est_near {A D U V P l m : Nat} (hA : A = U * P + l) (hD : D = V * P + m) (hl : l < P) (hm : m < P) (hq : A < 4294967296 * D) (hP : 4294967296 * P ≤ D) (hV : 0 < V) :
    A / D ≤ estN U V ∧ estN U V ≤ A / D + 1 := by
  have hP0 : 0 < P := by omega
  have hD0 : 0 < D := by omega
  have q1 : A / D < 4294967296 := (Nat.div_lt_iff_lt_mul hD0).2 hq
  have q2 : A / D * D ≤ A := Nat.div_mul_le_self A D
  refine ⟨?_, ?_⟩
  · have h1 : A / D * (V * P) ≤ A / D * D := Nat.mul_le_mul_left _ (by omega)
    have h2 : A / D * V * P < (U + 1) * P := by rw [Nat.mul_assoc, Nat.add_mul]; omega
    have h3 : A / D * V < U + 1 := Nat.lt_of_mul_lt_mul_right h2
    have h4 : A / D ≤ U / V := (Nat.le_div_iff_mul_le hV).2 (by omega)
    unfold estN; omega
  · have g1 : estN U V ≤ 4294967295 := by unfold estN; omega
    have g2 : estN U V * V ≤ U := Nat.le_trans (Nat.mul_le_mul_right _ (Nat.min_le_right _ _)) (Nat.div_mul_le_self U V)
    generalize estN U V = G at *
    have h1 : G * V * P ≤ U * P := Nat.mul_le_mul_right _ g2
    have h2 : G * m ≤ 4294967295 * P := Nat.mul_le_mul g1 (by omega)
    have h3 : G * D = G * V * P + G * m := by rw [hD, Nat.mul_add, Nat.mul_assoc]
    have h4 : G * D < A + D := by omega
    rcases Nat.eq_zero_or_pos G with h0 | h0
    · rw [h0]; exact Nat.zero_le _
    · have h5 : (G - 1) * D ≤ A := by rw [Nat.sub_mul, Nat.one_mul]; omega
      have := (Nat.le_div_iff_mul_le hD0).2 h5
      omega
/-- One limb of the subtraction of k times a limb. -/
theorem subm_limb {k d c a : Nat} (hk : k < 4294967296) (hd : d < 4294967296) (hc : c < 4294967296) :
    k * d + c < 18446744073709551616 - 4294967295 ∧ (k * d + c) / 4294967296 + (if a < (k * d + c) % 4294967296 then 1 else 0) < 4294967296 := by
  have h1 : k * d ≤ 4294967295 * 4294967295 := Nat.mul_le_mul (by omega) (by omega)
  refine ⟨by omega, ?_⟩
  split <;> omega
theorem subm_step {X Y V P a d c k a' c' : Nat} (h : X + c * P = V + k * Y) (ha : a + c' * 4294967296 = a' + (k * d + c)) :
    (X + P * a) + c' * (P * 4294967296) = (V + P * a') + k * (Y + P * d) := by
  have e1 : P * (a + c' * 4294967296) = P * (a' + (k * d + c)) := by rw [ha]
  simp only [Nat.mul_add] at e1 ⊢
  have e2 : P * (c' * 4294967296) = c' * (P * 4294967296) := by simp only [Nat.mul_left_comm]
  have e3 : P * (k * d) = k * (P * d) := by simp only [Nat.mul_left_comm]
  have e4 : P * c = c * P := Nat.mul_comm _ _
  omega
theorem subm_digit {a t a' c' : Nat} (hc : c' = t / 4294967296 + (if a < t % 4294967296 then 1 else 0)) (ha : a' = (a + 4294967296 - t % 4294967296) % 4294967296) (hal : a < 4294967296) : a + c' * 4294967296 = a' + t := by
  split at hc <;> omega
/-- What the subtraction of the estimate's multiple leaves: the remainder, or the remainder less the divisor, with a borrow. -/
theorem subm_end {A A0 D G q t c r B n : Nat} (hA : A = A0 + t * B) (hs : A0 + c * B = r + G * D) (hr : r < B) (hD : D ≤ B) (hq : q = A / D) (hD0 : 0 < D) (h1 : q ≤ G) (h2 : G ≤ q + 1) (_hn : n = n) :
    (¬ t < c → G = q ∧ r = A % D) ∧ (t < c → G = q + 1 ∧ r + D = A % D + B) := by
  have e := Nat.div_add_mod A D
  have hm := Nat.mod_lt A hD0
  rw [← hq] at e
  generalize A % D = m at *
  have hG : G = q ∨ G = q + 1 := by omega
  refine ⟨fun h => ?_, fun h => ?_⟩
  · rcases hG with rfl | rfl
    · refine ⟨rfl, ?_⟩
      have e2 : G * D = D * G := Nat.mul_comm _ _
      rcases Nat.lt_or_ge c t with h3 | h3
      · exfalso
        have : (c + 1) * B ≤ t * B := Nat.mul_le_mul_right _ h3
        rw [Nat.add_mul] at this
        omega
      · obtain rfl : c = t := by omega
        omega
    · exfalso
      have e2 : (q + 1) * D = D * q + D := by rw [Nat.add_mul, Nat.mul_comm]; omega
      have : c * B ≤ t * B := Nat.mul_le_mul_right _ (by omega)
      omega
  · have h3 : (t + 1) * B ≤ c * B := Nat.mul_le_mul_right _ h
    rw [Nat.add_mul] at h3
    rcases hG with rfl | rfl
    · exfalso
      have e2 : G * D = D * G := Nat.mul_comm _ _
      omega
    · refine ⟨rfl, ?_⟩
      have e2 : (q + 1) * D = D * q + D := by rw [Nat.add_mul, Nat.mul_comm]; omega
      rcases Nat.lt_or_ge (t + 1) c with h4 | h4
      · exfalso
        have : (t + 2) * B ≤ c * B := Nat.mul_le_mul_right _ h4
        rw [Nat.add_mul] at this
        omega
      · obtain rfl : c = t + 1 := by omega
        rw [Nat.add_mul] at hs
        omega
/-- The estimate's loop: what is put into the two words. -/
theorem est_test {g b1 b0 hi a0 r V U : Nat} (hV : V = b1 * 4294967296 + b0) (hU : U = hi * 4294967296 + a0) (hr : g * b1 + r = hi) : (r * 4294967296 + a0 < g * b0) ↔ U < g * V := by
  subst hV hU hr
  rw [Nat.mul_add, ← Nat.mul_assoc, Nat.add_mul]
  omega
theorem est_break {g b1 b0 hi a0 r V U : Nat} (hV : V = b1 * 4294967296 + b0) (hU : U = hi * 4294967296 + a0) (hr : g * b1 + r = hi) (h : 4294967296 ≤ r) (hg : g ≤ 4294967295) (hb : b0 < 4294967296) : g * V ≤ U := by
  subst hV hU hr
  have : g * b0 ≤ 4294967295 * 4294967295 := Nat.mul_le_mul hg (by omega)
  rw [Nat.mul_add, ← Nat.mul_assoc, Nat.add_mul]
  omega
theorem long_end {a b S v q : Nat} (hS : 0 < S) (hb : 0 < b) (h : v + b * S * q = a * S) (hv : v < b * S) : q = a / b ∧ v / S = a % b := by
  have h1 : a * S / (b * S) = q := by
    rw [← h, Nat.add_mul_div_left _ _ (Nat.mul_pos hb hS), Nat.div_eq_of_lt hv, Nat.zero_add]
  rw [Nat.mul_div_mul_right _ _ hS] at h1
  refine ⟨h1.symm, ?_⟩
  have h2 : a * S % (b * S) = v := by
    rw [← h, Nat.add_mul_mod_self_left, Nat.mod_eq_of_lt hv]
  rw [Nat.mul_mod_mul_right] at h2
  rw [← h2, Nat.mul_div_cancel _ hS]
end Go.Proofs.YtclmenpclkmfeaaDoor
namespace Go.Proofs.YtclmenpclkmfeaaDoor
open Go.RowKit
theorem est_hi {a1 a2 b1 : Nat} (h1 : a1 < 4294967296) (h2 : a2 ≤ b1) (hb : 2147483648 ≤ b1) : (a1 + 4294967296 * a2) / b1 ≤ 4294967297 := by
  have : (a1 + 4294967296 * a2) / b1 < 4294967298 := by
    rw [Nat.div_lt_iff_lt_mul (by omega)]; omega
  omega
set_option maxHeartbeats 1000000 in
theorem dlest_any (g o h o' c c' a0 a1 a2 b0 b1 : Nat) (w : World) (c0 : w.cell? ⟨g, o, none⟩ = some (.int .u32 (a0 : Int))) (c1 : w.cell? ⟨g, o + 1, none⟩ = some (.int .u32 (a1 : Int))) (c2 : w.cell? ⟨g, o + 2, none⟩ = some (.int .u32 (a2 : Int)))
    (d0 : w.cell? ⟨h, o', none⟩ = some (.int .u32 (b0 : Int))) (d1 : w.cell? ⟨h, o' + 1, none⟩ = some (.int .u32 (b1 : Int))) (ha0 : a0 < 4294967296) (ha1 : a1 < 4294967296) (ha2 : a2 ≤ b1) (hb0 : b0 < 4294967296) (hb1 : 2147483648 ≤ b1) (hb1' : b1 < 4294967296) :
    Calls Tryd.prog 111 #[.slice (some ⟨g, o, none⟩) 3 c, .slice (some ⟨h, o', none⟩) 2 c'] w fun e w' => e = .returned (.int .u64 ((estN ((a1 + 4294967296 * a2) * 4294967296 + a0) (b1 * 4294967296 + b0) : Nat) : Int)) ∧ Drawn w w' := by
  obtain ⟨hi, hhi⟩ : ∃ hi, hi = a1 + 4294967296 * a2 := ⟨_, rfl⟩
  have e1 : bits BinOp.or IntKind.u64 ((a2 : Int) * 4294967296) (a1 : Int) = (hi : Int) := by rw [or_limbs a1 a2 ha1 (by omega), hhi]
  have w1 : IntKind.u64.wrap ((a2 : Int) * 4294967296) = (a2 : Int) * 4294967296 := by rw [IntKind.wrap_u64]; omega
  have b1z : ((b1 : Int) == 0) = false := by simp; omega
  have hq := est_hi ha1 ha2 hb1
  rw [← hhi] at hq ⊢
  have hhl : hi < 18446744073709551616 := by omega
  have hdm := Nat.div_add_mod hi b1
  have hml := Nat.mod_lt hi (show 0 < b1 by omega)
  have hE : estN (hi * 4294967296 + a0) (b1 * 4294967296 + b0) ≤ hi / b1 := by
    unfold estN
    refine Nat.le_trans (Nat.min_le_right _ _) ?_
    have : (hi * 4294967296 + a0) / (b1 * 4294967296 + b0) < hi / b1 + 1 := by
      rw [Nat.div_lt_iff_lt_mul (by omega), Nat.add_mul, Nat.mul_add, ← Nat.mul_assoc, Nat.mul_comm (hi / b1) b1, Nat.one_mul]
      omega
    omega
  obtain ⟨E, hEd⟩ : ∃ E, E = estN (hi * 4294967296 + a0) (b1 * 4294967296 + b0) := ⟨_, rfl⟩
  rw [← hEd] at hE ⊢
  have e2 : (hi : Int) / (b1 : Int) = ((hi / b1 : Nat) : Int) := rfl
  have e3 : (hi : Int) % (b1 : Int) = ((hi % b1 : Nat) : Int) := rfl
  have e4 : (hi : Int).tmod (b1 : Int) = ((hi % b1 : Nat) : Int) := rfl
  have e5 : (hi : Int).tdiv (b1 : Int) = ((hi / b1 : Nat) : Int) := rfl
  generalize hi / b1 = Q at *
  generalize hi % b1 = R at *
  have w2 : IntKind.u64.wrap (Q : Int) = (Q : Int) := by rw [IntKind.wrap_u64]; omega
  have HED := Lib.hid hEd
  have HHI := Lib.hid hhi
  have HDM := Lib.hid hdm
  clear hEd hhi hdm
  go_enter Tryd.func111, Tryd.ntmps111
  go_wp2
  go_quiet (fail)
  go_wp2
  go_quiet (fail)
  clear w1 w2 e1 e2 e3 e4 e5
  go_wp2
  go_loopw [6, 7] (fun s6 s7 wr => ∃ G r : Nat, s6 = .int .u64 G ∧ s7 = .int .u64 r ∧ r < 4294967296 ∧ G ≤ 4294967297 ∧ E ≤ G ∧ Hid (G * b1 + r = hi) ∧ Drawn w wr) (fun s6 _ _ => (intOf s6).toNat)
  case atStart => exact ⟨Q, R, rfl, rfl, by omega, hq, hE, by rw [Hid, Nat.mul_comm]; exact HDM.out, ((Drawn.refl w).drewN _).drewN _⟩
  case round =>
    obtain ⟨G, r, rfl, rfl, hr, hG, hEG, hgr, hdr⟩ := hrel
    have k0 := hdr.cell ⟨g, o, none⟩
    have k1 := hdr.cell ⟨h, o', none⟩
    have k2 := hdr.cell ⟨h, o' + 1, none⟩
    rw [c0] at k0
    rw [d0] at k1
    rw [d1] at k2
    have hV : b1 * 4294967296 + b0 = b1 * 4294967296 + b0 := rfl
    have down : (4294967295 < G ∨ hi * 4294967296 + a0 < G * (b1 * 4294967296 + b0)) → 1 ≤ G ∧ E ≤ G - 1 ∧ (G - 1) * b1 + (r + b1) = hi ∧ (4294967295 < r + b1 → E = G - 1) := by
      intro h
      have h1 : 1 ≤ G := by
        rcases h with h | h
        · omega
        · rcases Nat.eq_zero_or_pos G with h0 | h0
          · rw [h0, Nat.zero_mul] at h; omega
          · exact h0
      have h2 : E ≤ G - 1 := by rw [HED.out]; exact estN_lt (by omega) h
      have h3 : (G - 1) * b1 + (r + b1) = hi := by
        have e : G * b1 = (G - 1) * b1 + b1 := by rw [Nat.sub_mul, Nat.one_mul, Nat.sub_add_cancel (Nat.le_mul_of_pos_left _ h1)]
        have := hgr.out
        omega
      refine ⟨h1, h2, h3, fun h4 => ?_⟩
      have h5 : G - 1 ≤ 4294967295 := by
        rcases Nat.lt_or_ge 4294967296 G with h6 | h6
        · exfalso
          have h7 : 4294967296 * b1 ≤ (G - 1) * b1 := Nat.mul_le_mul_right _ (by omega)
          have := HHI.out
          omega
        · omega
      have h6 := est_break (g := G - 1) (b0 := b0) (a0 := a0) hV rfl h3 (by omega) h5 hb0
      have h7 := HED.out
      rw [h7] at h2 ⊢
      exact (estN_of (by omega) h5 h6 h2).symm
    have HDN := Lib.hid down
    clear down hV
    by_cases hc : 4294967295 < G
    · have f1 : decide (4294967295 < (G : Int)) = true := by simp; omega
      obtain ⟨h1, h2, h3, h4⟩ := HDN.out (.inl hc)
      have H3 := Lib.hid h3
      have H4 := Lib.hid h4
      clear h3 h4
      go_wp2
      go_quiet (fail)
      by_cases hb : 4294967295 < r + b1
      · have hb' : (4294967295 : Int) < (r : Int) + b1 := by omega
        go_wp2
        go_ret
        exact ⟨retI (by have := H4.out hb; omega), hdr.drewN _⟩
      · have hb' : ¬ (4294967295 : Int) < (r : Int) + b1 := by omega
        go_wp2
        exact ⟨⟨G - 1, r + b1, by go_num, by go_num, by omega, by omega, h2, H3, hdr.drewN _⟩, by simp [intOf]; omega⟩
    · have f1 : decide (4294967295 < (G : Int)) = false := by simp; omega
      obtain ⟨p, hp⟩ : ∃ p, p = G * b0 := ⟨_, rfl⟩
      have hpl : p ≤ 4294967295 * 4294967295 := by rw [hp]; exact Nat.mul_le_mul (by omega) (by omega)
      have hpe : (G : Int) * (b0 : Int) = (p : Int) := by rw [hp]; exact (Int.natCast_mul G b0).symm
      have w1 : IntKind.u64.wrap (p : Int) = (p : Int) := by rw [IntKind.wrap_u64]; omega
      have w2 : IntKind.u64.wrap ((r : Int) * 4294967296) = (r : Int) * 4294967296 := by rw [IntKind.wrap_u64]; omega
      have e1 := or_limbs a0 r ha0 hr
      obtain ⟨t, ht⟩ : ∃ t, t = a0 + 4294967296 * r := ⟨_, rfl⟩
      rw [← ht] at e1
      have htest := est_test (V := b1 * 4294967296 + b0) (a0 := a0) rfl rfl hgr.out
      rw [← hp, show r * 4294967296 + a0 = t by omega] at htest
      have HTT := Lib.hid htest
      have HP := Lib.hid hp
      have HT := Lib.hid ht
      clear htest hp ht
      by_cases hu : t < p
      · have f2 : decide ((t : Int) < (p : Int)) = true := by simp; omega
        obtain ⟨h1, h2, h3, h4⟩ := HDN.out (.inr (HTT.out.1 hu))
        have H3 := Lib.hid h3
        have H4 := Lib.hid h4
        clear h3 h4
        go_wp2
        go_quiet (fail)
        clear w1 w2 e1
        by_cases hb : 4294967295 < r + b1
        · have hb' : (4294967295 : Int) < (r : Int) + b1 := by omega
          go_wp2
          go_ret
          exact ⟨retI (by have := H4.out hb; omega), hdr.drewN _⟩
        · have hb' : ¬ (4294967295 : Int) < (r : Int) + b1 := by omega
          go_wp2
          exact ⟨⟨G - 1, r + b1, by go_num, by go_num, by omega, by omega, h2, H3, hdr.drewN _⟩, by simp [intOf]; omega⟩
      · have f2 : decide ((t : Int) < (p : Int)) = false := by simp; omega
        have hE2 : G = E := by
          have h5 : G * (b1 * 4294967296 + b0) ≤ hi * 4294967296 + a0 := by
            rcases Nat.lt_or_ge (hi * 4294967296 + a0) (G * (b1 * 4294967296 + b0)) with h | h
            · exact absurd (HTT.out.2 h) hu
            · exact h
          have h7 := HED.out
          rw [h7] at hEG ⊢
          exact estN_of (by omega) (by omega) h5 hEG
        have HE2 := Lib.hid hE2
        clear hE2
        go_wp2
        go_quiet (fail)
        clear w1 w2 e1
        go_wp2
        go_ret
        exact ⟨retI (by rw [HE2.out]), hdr.drewN _⟩
end Go.Proofs.YtclmenpclkmfeaaDoor
namespace Go.Proofs.YtclmenpclkmfeaaDoor
open Go.RowKit
theorem only_set {w wr : World} {g k : Nat} (h : w.grownBy wr (some g)) (u : Nat) : w.grownBy (wr.setCell ⟨g, k, none⟩ (.int .u32 (u : Int))) (some g) :=
  ⟨h.os, h.tape, h.output, by simpa [World.setCell] using h.size, fun i hi hne => (Below.heap_setCell wr _ _ i (by rintro rfl; exact hne rfl)).trans (h.block i hi hne)⟩
theorem getD_left {k : Nat} (xs ys : List Nat) (h : k < xs.length) : (xs ++ ys).getD k 0 = xs.getD k 0 := by
  rw [List.getD_eq_getElem?_getD, List.getElem?_append_left h, ← List.getD_eq_getElem?_getD]
set_option maxHeartbeats 1000000 in
theorem divIn_any (g n c d : Nat) (xs tl : List Nat) (w : World) (hR : Row w g (xs ++ tl)) (hL : Limbs xs) (hl : xs.length = n) (_hnc : n ≤ c) (hn : n ≤ 1000000) (hd : 0 < d) (hdl : d < 4294967296) :
    Calls Tryd.prog 99 #[.slice (some ⟨g, 0, none⟩) n c, .int .u32 (d : Int)] w fun e w' => ∃ ys, e = .returned (.int .u32 ((val xs % d : Nat) : Int)) ∧ Row w' g (ys ++ tl) ∧ Limbs ys ∧ ys.length = n ∧ val ys = val xs / d ∧ w.grownBy w' (some g) := by
  have b1 : ((d : Int) == 0) = false := by simp; omega
  have HL := Lib.hid hl
  clear hl
  go_enter Tryd.func99, Tryd.ntmps99
  go_wp2
  go_loopw [5, 6] (fun re i wr => ∃ (k : Int) (r : Nat) (ys : List Nat), -1 ≤ k ∧ k < n ∧ i = .int .i64 k ∧ re = .int .u64 r ∧ r < d ∧ Row wr g (ys ++ tl) ∧ Limbs ys ∧ Hid (ys.length = n) ∧ Hid (ys.take (k + 1).toNat = xs.take (k + 1).toNat) ∧ Hid (val (xs.drop (k + 1).toNat) = val (ys.drop (k + 1).toNat) * d + r) ∧ w.grownBy wr (some g)) (fun _ i _ => (intOf i + 1).toNat)
  case atStart =>
    refine ⟨n - 1, 0, xs, by omega, by omega, rfl, rfl, hd, hR, hL, HL.out, rfl, ?_, World.grownBy.refl w _⟩
    rw [Hid, show ((n : Int) - 1 + 1).toNat = n by omega, List.drop_of_length_le (by rw [HL.out]; exact Nat.le_refl _)]; simp [val]
  case round =>
    obtain ⟨k, r, ys, hk, hkn, rfl, rfl, hr, hRy, hLy, hly, htk, hv, hgb⟩ := hrel
    by_cases h0 : 0 ≤ k
    · obtain ⟨k, rfl⟩ := Int.eq_ofNat_of_zero_le h0
      obtain ⟨x, hx⟩ : ∃ x, x = ys.getD k 0 := ⟨_, rfl⟩
      have hc := hRy.cell (k := k) (by rw [List.length_append, hly.out]; omega)
      rw [getD_left _ _ (by rw [hly.out]; omega)] at hc
      have hf := hRy.frozen k
      have hxl : x < 4294967296 := by
        rw [hx, List.getD_eq_getElem?_getD, List.getElem?_eq_getElem (by rw [hly.out]; omega)]
        exact hLy _ (List.getElem_mem _)
      rw [← hx] at hc
      have HX := Lib.hid hx
      clear hx
      go_wp2
      have e1 : bits BinOp.or IntKind.u64 ((r : Int) * 4294967296) (x : Int) = ((x + 4294967296 * r : Nat) : Int) := or_limbs x r hxl (by omega)
      rw [e1]
      obtain ⟨t, ht⟩ : ∃ t, t = x + 4294967296 * r := ⟨_, rfl⟩
      rw [← ht]
      have e2 : ((t : Int)).tmod (d : Int) = ((t % d : Nat) : Int) := rfl
      have e3 : ((t : Int)).tdiv (d : Int) = ((t / d : Nat) : Int) := rfl
      have hv1 : t / d < 4294967296 := by
        rw [Nat.div_lt_iff_lt_mul hd, ht]
        have : 4294967296 * (r + 1) ≤ 4294967296 * d := Nat.mul_le_mul_left _ hr
        omega
      have hm := Nat.mod_lt t hd
      have htd := Nat.div_add_mod t d
      rw [e2, e3]
      generalize t / d = v at *
      generalize t % d = r' at *
      have e4 : IntKind.u64.wrap (v : Int) % 4294967296 = (v : Int) := by rw [IntKind.wrap_u64]; omega
      rw [e4]
      have htk' := htk.out
      have hv' := hv.out
      rw [show ((k : Int) + 1).toNat = k + 1 by omega] at htk' hv'
      have hxx : x = xs.getD k 0 := by
        rw [HX.out, ← getD_take (xs := ys) (k := k + 1) (Nat.lt_succ_self k), htk', getD_take (Nat.lt_succ_self k)]
      refine ⟨⟨(k : Int) - 1, r', ys.set k v, by omega, by omega, rfl, rfl, hm, by rw [← List.set_append_left _ _ (by rw [hly.out]; omega)]; exact hRy.set _ _, limbs_set hLy _ hv1, by rw [Hid, List.length_set]; exact hly.out, ?_, ?_, ?_⟩, by show ((k : Int) - 1 + 1).toNat < ((k : Int) + 1).toNat; omega⟩
      · rw [Hid, show ((k : Int) - 1 + 1).toNat = k by omega, List.take_set_of_le (Nat.le_refl k)]
        have := congrArg (List.take k) htk'
        rw [List.take_take, List.take_take, Nat.min_eq_left (by omega)] at this
        exact this
      · rw [Hid, show ((k : Int) - 1 + 1).toNat = k by omega, val_set_drop (by rw [hly.out]; omega), val_drop_cons (xs := xs) (k := k) (by rw [HL.out]; omega), hv', ← hxx, Nat.add_mul, Nat.mul_add]
        rw [Nat.mul_comm d v] at htd
        rw [← Nat.mul_assoc]
        omega
      · exact only_set hgb v
    · obtain rfl : k = -1 := by omega
      go_wp2
      go_ret
      have hv' := hv.out
      rw [show ((-1 : Int) + 1).toNat = 0 from rfl, List.drop_zero, List.drop_zero] at hv'
      refine ⟨retI ?_, ys, hRy, hLy, hly.out, ?_, hgb⟩
      · rw [← Int.natCast_emod, hv', Nat.mul_comm, Nat.mul_add_mod, Nat.mod_eq_of_lt hr]
      · rw [hv', Nat.mul_comm, Nat.mul_add_div hd, Nat.div_eq_of_lt hr, Nat.add_zero]
end Go.Proofs.YtclmenpclkmfeaaDoor
namespace Go.Proofs.YtclmenpclkmfeaaDoor
open Go.RowKit
theorem getD_mid (pre xs tl : List Nat) (i k : Nat) (hi : pre.length = i) (h : k < xs.length) : (pre ++ (xs ++ tl)).getD (i + k) 0 = xs.getD k 0 := by
  subst hi
  rw [List.getD_eq_getElem?_getD, List.getElem?_append_right (by omega), Nat.add_sub_cancel_left, List.getElem?_append_left h, ← List.getD_eq_getElem?_getD]
theorem getD_tl (pre xs tl : List Nat) (i n : Nat) (hi : pre.length = i) (h : xs.length = n) : (pre ++ (xs ++ tl)).getD (i + n) 0 = tl.getD 0 0 := by
  subst hi h
  rw [List.getD_eq_getElem?_getD, List.getElem?_append_right (by omega), Nat.add_sub_cancel_left, List.getElem?_append_right (Nat.le_refl _), Nat.sub_self, ← List.getD_eq_getElem?_getD]
theorem set_mid (pre xs tl : List Nat) (i k v : Nat) (hi : pre.length = i) (h : k < xs.length) : (pre ++ (xs ++ tl)).set (i + k) v = pre ++ (xs.set k v ++ tl) := by
  subst hi
  rw [List.set_append_right _ _ (by omega), Nat.add_sub_cancel_left, List.set_append_left _ _ h]
theorem getD_lt {xs : List Nat} (hL : Limbs xs) (k : Nat) : xs.getD k 0 < 4294967296 := by
  rw [List.getD_eq_getElem?_getD]
  rcases Nat.lt_or_ge k xs.length with h | h
  · rw [List.getElem?_eq_getElem h]; exact hL _ (List.getElem_mem _)
  · rw [List.getElem?_eq_none h]; exact Nat.zero_lt_succ _
theorem Row.grown {w w' : World} {g h : Nat} {xs : List Nat} (hR : Row w h xs) (hg : w.grownBy w' (some g)) (hne : h ≠ g) : Row w' h xs :=
  (hg.block h hR.lt (fun e => hne (by cases e; rfl))).trans hR
/-- What subtractMultiple leaves. -/
def SubRes (w : World) (g n k : Nat) (pre xs tl ds : List Nat) (e : Ending) (w' : World) : Prop :=
  ∃ ys cr, e = .returned (.bool (decide (tl.getD 0 0 < cr))) ∧ Row w' g (pre ++ (ys ++ tl)) ∧ Limbs ys ∧ ys.length = n ∧ val xs + cr * 4294967296 ^ n = val ys + k * val ds ∧ w.grownBy w' (some g)
set_option maxHeartbeats 1000000 in
theorem subm_any (g h i n c c' k : Nat) (pre xs tl ds dt : List Nat) (w : World) (hR : Row w g (pre ++ (xs ++ tl))) (hD : Row w h (ds ++ dt)) (hne : h ≠ g) (hi : pre.length = i) (hxn : xs.length = n) (hdn : ds.length = n) (hLx : Limbs xs) (hLd : Limbs ds) (hLt : Limbs tl) (ht : 0 < tl.length) (hn : n ≤ 1000000) (_hil : i ≤ 1000000) (hk : k < 4294967296) :
    Calls Tryd.prog 112 #[.slice (some ⟨g, i, none⟩) (n + 1) c, .slice (some ⟨h, 0, none⟩) n c', .int .u64 (k : Int)] w (SubRes w g n k pre xs tl ds) := by
  have HI := Lib.hid hi
  have HX := Lib.hid hxn
  have HD := Lib.hid hdn
  clear hi hxn hdn
  go_enter Tryd.func112, Tryd.ntmps112
  go_wp2
  go_loopw [8, 14] (fun cr i' wr => ∃ j q : Nat, ∃ ys : List Nat, j ≤ n ∧ i' = .int .i64 j ∧ cr = .int .u64 q ∧ q < 4294967296 ∧ Row wr g (pre ++ (ys ++ tl)) ∧ Limbs ys ∧ Hid (ys.length = n) ∧ Hid (ys.drop j = xs.drop j) ∧ Hid (val (xs.take j) + q * 4294967296 ^ j = val (ys.take j) + k * val (ds.take j)) ∧ w.grownBy wr (some g)) (fun _ i' _ => n - (intOf i').toNat)
  case atStart => exact ⟨0, 0, xs, by omega, rfl, rfl, by omega, hR, hLx, HX.out, rfl, by simp [Hid, val], World.grownBy.refl w _⟩
  case round =>
    obtain ⟨j, q, ys, hj, rfl, rfl, hq, hRy, hLy, hly, hdr, hv, hgb⟩ := hrel
    have hDw := hD.grown hgb hne
    by_cases hjn : j < n
    · obtain ⟨a, ha⟩ : ∃ a, a = ys.getD j 0 := ⟨_, rfl⟩
      obtain ⟨d, hd⟩ : ∃ d, d = ds.getD j 0 := ⟨_, rfl⟩
      have hca := hRy.cell (k := i + j) (by rw [List.length_append, List.length_append, HI.out, hly.out]; omega)
      rw [getD_mid _ _ _ _ _ HI.out (by rw [hly.out]; omega), ← ha] at hca
      have hcd := hDw.cell (k := j) (by rw [List.length_append, HD.out]; omega)
      rw [getD_left _ _ (by rw [HD.out]; omega), ← hd] at hcd
      have hfr := hRy.frozen (i + j)
      have hal : a < 4294967296 := by rw [ha]; exact getD_lt hLy j
      have hdl : d < 4294967296 := by rw [hd]; exact getD_lt hLd j
      have hlim := subm_limb (a := a) hk hdl hq
      obtain ⟨p, hp⟩ : ∃ p, p = k * d := ⟨_, rfl⟩
      rw [← hp] at hlim
      obtain ⟨hl1, hl2⟩ := hlim
      have hkd : (k : Int) * (d : Int) = (p : Int) := by rw [hp]; exact (Int.natCast_mul k d).symm
      have w1 : IntKind.u64.wrap (p : Int) = (p : Int) := by rw [IntKind.wrap_u64]; omega
      have w2 : IntKind.u64.wrap ((q : Int) + p) = ((p + q : Nat) : Int) := by rw [IntKind.wrap_u64]; omega
      have HA := Lib.hid ha
      have HDD := Lib.hid hd
      have HP := Lib.hid hp
      clear ha hd hp
      obtain ⟨t, ht'⟩ : ∃ t, t = p + q := ⟨_, rfl⟩
      rw [← ht'] at w2 hl1 hl2
      have HT := Lib.hid ht'
      clear ht'
      have hxa : a = xs.getD j 0 := by
        have e := congrArg (fun l => List.getD l 0 0) hdr.out
        simp only [getD_drop, Nat.add_zero] at e
        rw [HA.out, e]
      have HXA := Lib.hid hxa
      clear hxa
      have key : ∀ a' c'' : Nat, a' < 4294967296 → a + c'' * 4294967296 = a' + t → Limbs (ys.set j a') ∧ Hid ((ys.set j a').length = n) ∧ Hid ((ys.set j a').drop (j + 1) = xs.drop (j + 1)) ∧
          Hid (val (xs.take (j + 1)) + c'' * 4294967296 ^ (j + 1) = val ((ys.set j a').take (j + 1)) + k * val (ds.take (j + 1))) := by
        intro a' c'' h1 h2
        refine ⟨limbs_set hLy _ h1, by rw [Hid, List.length_set]; exact hly.out, ?_, ?_⟩
        · rw [Hid, List.drop_set_of_lt (Nat.lt_succ_self j)]
          have e := congrArg (List.drop 1) hdr.out
          rwa [List.drop_drop, List.drop_drop] at e
        · rw [Hid, val_take_succ xs, val_take_succ ds, val_set_take ys j _ (by rw [hly.out]; omega), ← HXA.out, ← HDD.out, Nat.pow_succ]
          exact subm_step hv.out (by rw [h2, HT.out, HP.out])
      have hset : ∀ (a' : Nat) (z : Int), z = (a' : Int) → Row (wr.setCell ⟨g, i + j, none⟩ (.int .u32 z)) g (pre ++ (ys.set j a' ++ tl)) := by
        rintro a' z rfl
        have := hRy.set (i + j) a'
        rwa [set_mid _ _ _ _ _ _ HI.out (by rw [hly.out]; omega)] at this
      have hgs : ∀ z : Int, w.grownBy (wr.setCell ⟨g, i + j, none⟩ (.int .u32 z)) (some g) := fun z =>
        ⟨hgb.os, hgb.tape, hgb.output, by simpa [World.setCell] using hgb.size, fun i hi hne => (Below.heap_setCell wr _ _ i (by rintro rfl; exact hne rfl)).trans (hgb.block i hi hne)⟩
      have HK := Lib.hid key
      have HS := Lib.hid hset
      clear key hset
      by_cases hlt : a < t % 4294967296
      · have hlt' : (a : Int) < (t : Int) % 4294967296 := by omega
        rw [if_pos hlt] at hl2
        obtain ⟨k1, k2, k3, k4⟩ := HK.out ((a + 4294967296 - t % 4294967296) % 4294967296) (t / 4294967296 + 1) (by omega) (by omega)
        go_wp2
        exact ⟨⟨j + 1, t / 4294967296 + 1, _, by omega, by go_num, by go_num, by omega, HS.out _ _ (by omega), k1, k2, k3, k4, hgs _⟩, by simp [intOf]; omega⟩
      · have hlt' : ¬ (a : Int) < (t : Int) % 4294967296 := by omega
        rw [if_neg hlt] at hl2
        obtain ⟨k1, k2, k3, k4⟩ := HK.out ((a + 4294967296 - t % 4294967296) % 4294967296) (t / 4294967296) (by omega) (by omega)
        go_wp2
        exact ⟨⟨j + 1, t / 4294967296, _, by omega, by go_num, by go_num, by omega, HS.out _ _ (by omega), k1, k2, k3, k4, hgs _⟩, by simp [intOf]; omega⟩
    · obtain rfl : j = n := by omega
      obtain ⟨t, ht'⟩ : ∃ t, t = tl.getD 0 0 := ⟨_, rfl⟩
      have hct := hRy.cell (k := i + j) (by rw [List.length_append, List.length_append, HI.out, hly.out]; omega)
      rw [getD_tl _ _ _ _ _ HI.out hly.out, ← ht'] at hct
      have htl : t < 4294967296 := by rw [ht']; exact getD_lt hLt 0
      have HT := Lib.hid ht'
      clear ht'
      have hv' := Lib.hid hv.out
      go_wp2
      go_ret
      refine ⟨ys, q, ?_, hRy, hLy, hly.out, ?_, hgb⟩
      · rw [← HT.out]; exact retB (by simp)
      · have h1 := hv.out
        rwa [List.take_of_length_le (by rw [HX.out]; exact Nat.le_refl _), List.take_of_length_le (by rw [hly.out]; exact Nat.le_refl _), List.take_of_length_le (by rw [HD.out]; exact Nat.le_refl _)] at h1
/-- What addBack leaves. -/
def AddRes (w : World) (g n : Nat) (pre xs tl ds : List Nat) (e : Ending) (w' : World) : Prop :=
  ∃ ys cr, e = .returned (.tuple #[]) ∧ Row w' g (pre ++ (ys ++ tl)) ∧ Limbs ys ∧ ys.length = n ∧ val xs + val ds = val ys + cr * 4294967296 ^ n ∧ w.grownBy w' (some g)
set_option maxHeartbeats 1000000 in
theorem addBack_any (g h i n c c' : Nat) (pre xs tl ds dt : List Nat) (w : World) (hR : Row w g (pre ++ (xs ++ tl))) (hD : Row w h (ds ++ dt)) (hne : h ≠ g) (hi : pre.length = i) (hxn : xs.length = n) (hdn : ds.length = n) (hLx : Limbs xs) (hLd : Limbs ds) (hn : n ≤ 1000000) (_hil : i ≤ 1000000) :
    Calls Tryd.prog 113 #[.slice (some ⟨g, i, none⟩) n c, .slice (some ⟨h, 0, none⟩) n c'] w (AddRes w g n pre xs tl ds) := by
  have HI := Lib.hid hi
  have HX := Lib.hid hxn
  have HD := Lib.hid hdn
  clear hi hxn hdn
  go_enter Tryd.func113, Tryd.ntmps113
  go_wp2
  go_loopw [4, 8] (fun cr i' wr => ∃ j q : Nat, ∃ ys : List Nat, j ≤ n ∧ i' = .int .i64 j ∧ cr = .int .u64 q ∧ q ≤ 1 ∧ Row wr g (pre ++ (ys ++ tl)) ∧ Limbs ys ∧ Hid (ys.length = n) ∧ Hid (ys.drop j = xs.drop j) ∧ Hid (val (xs.take j) + val (ds.take j) = val (ys.take j) + q * 4294967296 ^ j) ∧ w.grownBy wr (some g)) (fun _ i' _ => n - (intOf i').toNat)
  case atStart => exact ⟨0, 0, xs, by omega, rfl, rfl, by omega, hR, hLx, HX.out, rfl, by simp [Hid, val], World.grownBy.refl w _⟩
  case round =>
    obtain ⟨j, q, ys, hj, rfl, rfl, hq, hRy, hLy, hly, hdr, hv, hgb⟩ := hrel
    have hDw := hD.grown hgb hne
    by_cases hjn : j < n
    · obtain ⟨a, ha⟩ : ∃ a, a = ys.getD j 0 := ⟨_, rfl⟩
      obtain ⟨d, hd⟩ : ∃ d, d = ds.getD j 0 := ⟨_, rfl⟩
      have hca := hRy.cell (k := i + j) (by rw [List.length_append, List.length_append, HI.out, hly.out]; omega)
      rw [getD_mid _ _ _ _ _ HI.out (by rw [hly.out]; omega), ← ha] at hca
      have hcd := hDw.cell (k := j) (by rw [List.length_append, HD.out]; omega)
      rw [getD_left _ _ (by rw [HD.out]; omega), ← hd] at hcd
      have hfr := hRy.frozen (i + j)
      have hal : a < 4294967296 := by rw [ha]; exact getD_lt hLy j
      have hdl : d < 4294967296 := by rw [hd]; exact getD_lt hLd j
      have HA := Lib.hid ha
      have HDD := Lib.hid hd
      clear ha hd
      have hxa : a = xs.getD j 0 := by
        have e := congrArg (fun l => List.getD l 0 0) hdr.out
        simp only [getD_drop, Nat.add_zero] at e
        rw [HA.out, e]
      have HXA := Lib.hid hxa
      clear hxa
      obtain ⟨t, ht⟩ : ∃ t, t = a + q + d := ⟨_, rfl⟩
      have hset : ∀ (m : Nat) (z : Int), z = ((t % 4294967296 : Nat) : Int) → Row ((wr.drewN m).setCell ⟨g, i + j, none⟩ (.int .u32 z)) g (pre ++ (ys.set j (t % 4294967296) ++ tl)) := by
        rintro m z rfl
        have := (hRy.drewN m).set (i + j) (t % 4294967296)
        rwa [set_mid _ _ _ _ _ _ HI.out (by rw [hly.out]; omega)] at this
      have hgs : ∀ (m : Nat) (z : Int), w.grownBy ((wr.drewN m).setCell ⟨g, i + j, none⟩ (.int .u32 z)) (some g) := fun m z =>
        ⟨hgb.os, hgb.tape, hgb.output, by simpa [World.setCell] using hgb.size, fun i hi hne => (Below.heap_setCell (wr.drewN m) _ _ i (by rintro rfl; exact hne rfl)).trans (hgb.block i hi hne)⟩
      have HS := Lib.hid hset
      have w1 : IntKind.u64.wrap ((a : Int) + d) = (a : Int) + d := by rw [IntKind.wrap_u64]; omega
      have w2 : IntKind.u64.wrap ((q : Int) + ((a : Int) + d)) = (t : Int) := by rw [IntKind.wrap_u64]; omega
      have htl : t < 8589934592 := by omega
      have HT := Lib.hid ht
      clear hset ht
      go_wp2
      go_quiet (fail)
      clear w1 w2
      go_wp2
      refine ⟨⟨j + 1, t / 4294967296, ys.set j (t % 4294967296), by omega, by go_num, by go_num, by omega, HS.out _ _ (by omega), limbs_set hLy _ (by omega), by rw [Hid, List.length_set]; exact hly.out, ?_, ?_, hgs _ _⟩, by simp [intOf]; omega⟩
      · rw [Hid, List.drop_set_of_lt (Nat.lt_succ_self j)]
        have e := congrArg (List.drop 1) hdr.out
        rwa [List.drop_drop, List.drop_drop] at e
      · rw [Hid, val_take_succ xs, val_take_succ ds, val_set_take ys j _ (by rw [hly.out]; omega), ← HXA.out, ← HDD.out, Nat.pow_succ]
        exact sum_step hv.out HT.out
    · obtain rfl : j = n := by omega
      go_wp2
      refine bodyPost_ret (v := .tuple #[]) (by simp [results, Tryd.results113, go_sem]) rfl ?_
      refine ⟨ys, q, rfl, hRy, hLy, hly.out, ?_, hgb⟩
      have h1 := hv.out
      rwa [List.take_of_length_le (by rw [HX.out]; exact Nat.le_refl _), List.take_of_length_le (by rw [HD.out]; exact Nat.le_refl _), List.take_of_length_le (by rw [hly.out]; exact Nat.le_refl _)] at h1
end Go.Proofs.YtclmenpclkmfeaaDoor
