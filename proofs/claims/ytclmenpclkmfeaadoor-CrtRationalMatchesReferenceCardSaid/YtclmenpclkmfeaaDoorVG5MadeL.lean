/- Contract of made (the law's own). Contract of integer.groupText; rows of bytes. Contract of integer.groups. Contracts of strings.TrimLeft at one byte and of strings.CutPrefix, by the library's own theorems at this program. Words for regions that write into structs that were there before. Order, floor and nearest integer of fractions: the mathematics of the laws of stage 2. Mathematics of rational reconstruction: the lines of Euclid's algorithm. -/
import Derived.Test.YtclmenpclkmfeaaDoorVG2Prod
import Derived.Test.YtclmenpclkmfeaaDoorVG0Words
import Derived.Test.YtclmenpclkmfeaaDoorVG3Num2
import Derived.Laws.CopyOwn
import Derived.Deep.RegionLaw
import Derived.Shelf.Strings.Trim
import Derived.Shelf.Small.Wraps
import Derived.Test.YtclmenpclkmfeaaDoorProg
import Derived.Test.YtclmenpclkmfeaaDoorVG1CrtMap
namespace Go.Proofs.YtclmenpclkmfeaaDoor
open Go.RowKit
end Go.Proofs.YtclmenpclkmfeaaDoor
namespace Go.Proofs.YtclmenpclkmfeaaDoor
open Go.RowKit
def byt (xs : List Nat) : List Value := xs.map fun (x : Nat) => Value.int .u8 (x : Int)
theorem byt_len (xs : List Nat) : (byt xs).length = xs.length := by simp [byt]
theorem byt_get (xs : List Nat) (k : Nat) (h : k < xs.length) : (byt xs)[k]? = some (.int .u8 ((xs.getD k 0 : Nat) : Int)) := by
  simp [byt, List.getD_eq_getElem?_getD, List.getElem?_eq_getElem h]
theorem byt_one (xs : List Nat) : ∀ u ∈ byt xs, u.oneCell' = true := by
  intro u hu
  simp only [byt, List.mem_map] at hu
  obtain ⟨x, _, rfl⟩ := hu
  rfl
/-- A block that holds just these bytes. -/
def RowB (w : World) (g : Nat) (t : TypeId) (xs : List Nat) : Prop := w.heap[g]? = some (.cells (byt xs).toArray t (0, 0))
section
variable {w w' : World} {g : Nat} {t : TypeId} {xs : List Nat}
theorem RowB.lt (h : RowB w g t xs) : g < w.heap.size := (Array.getElem?_eq_some_iff.1 h).1
theorem RowB.cell (h : RowB w g t xs) {k : Nat} (hk : k < xs.length) : w.cell? ⟨g, k, none⟩ = some (.int .u8 ((xs.getD k 0 : Nat) : Int)) := by
  rw [cell_of_row w g k _ _ _ h, List.getElem?_toArray, byt_get xs k hk]
theorem RowB.frozen (h : RowB w g t xs) (i : Nat) : w.frozen? ⟨g, i, none⟩ = false := by
  unfold RowB at h
  simp [World.frozen?, h]
theorem RowB.below {B : Nat} (h : RowB w g t xs) (hb : Below B w w') (hg : g < B) : RowB w' g t xs := (hb.block g hg).trans h
theorem RowB.alloc (h : RowB w g t xs) (o : Obj) : RowB (w.alloc o) g t xs := (Below.heap_alloc w o g h.lt).trans h
theorem RowB.drewN (h : RowB w g t xs) (n : Nat) : RowB (w.drewN n) g t xs := h
theorem RowB.drew (h : RowB w g t xs) : RowB w.drew g t xs := h
theorem RowB.far (h : RowB w g t xs) {p : Addr} (hp : g ≠ p.block) (u : Value) : RowB (w.setCell p u) g t xs := (Below.heap_setCell w p u g hp).trans h
theorem RowB.set (h : RowB w g t xs) (k x : Nat) : RowB (w.setCell ⟨g, k, none⟩ (.int .u8 (x : Int))) g t (xs.set k x) := by
  unfold RowB at h ⊢
  simp [World.setCell, Array.getElem?_modify, h, byt, List.map_set]
end
/-- The last j decimal digits of n, as characters. -/
def low : Nat → Nat → List Nat
  | 0, _ => []
  | j + 1, n => (48 + n / 10 ^ j % 10) :: low j n
theorem low_len (j n : Nat) : (low j n).length = j := by induction j with
  | zero => rfl
  | succ j ih => simp [low, ih]
theorem low_set (j k n : Nat) : (List.replicate (k + 1) 0 ++ low j n).set k (48 + n / 10 ^ j % 10) = List.replicate k 0 ++ low (j + 1) n := by
  rw [List.replicate_succ', List.append_assoc, List.set_append_right _ _ (by simp)]
  simp [low]
end Go.Proofs.YtclmenpclkmfeaaDoor
namespace Go.Proofs.YtclmenpclkmfeaaDoor
open Go.RowKit
theorem infoB : (Tryd.prog.info? 5).map (fun i => (i.zero, i.size, i.bytes)) = some (some (.int .u8 0), 1, 1) := by kernel_rfl
theorem RowB.made (w : World) (n : Nat) : RowB (w.alloc (.cells (madeCells #[.int .u8 0] n) 5)) w.heap.size 5 (List.replicate n 0) := by
  unfold RowB
  rw [heap_alloc_new]
  congr 2
  rw [← Array.toList_inj, toList_madeCells_one]
  simp [byt]
theorem Row.pre {w : World} {g : Nat} {xs tl : List Nat} (h : Row w g (xs ++ tl)) (hl : Limbs xs) (c : Nat) (hc : xs.length ≤ c) (hc' : c ≤ 9223372036854775807) : Lim w w.heap.size (some ⟨g, 0, none⟩) xs.length c xs :=
  ⟨⟨hc, hc'⟩, rfl, hl, fun _ => ⟨_, rfl, h.lt, fun k hk => by
    rw [Addr.add_lit, Nat.zero_add]
    have := h.cell (k := k) (by rw [List.length_append]; omega)
    rwa [getD_left _ _ hk] at this⟩⟩
/-- The number that a row of characters stands for. -/
def decN (l : List Nat) : Nat := l.foldl (fun a c => 10 * a + (c - 48)) 0
theorem decN_from (l : List Nat) : ∀ a : Nat, l.foldl (fun a c => 10 * a + (c - 48)) a = a * 10 ^ l.length + decN l := by
  induction l with
  | nil => intro a; simp [decN]
  | cons x l ih =>
    intro a
    have h1 := ih (10 * a + (x - 48))
    have h2 := ih (10 * 0 + (x - 48))
    have h3 : decN (x :: l) = l.foldl (fun a c => 10 * a + (c - 48)) (10 * 0 + (x - 48)) := rfl
    rw [List.foldl_cons, h1, h3, h2, List.length_cons, Nat.pow_succ, Nat.add_mul, Nat.mul_zero, Nat.zero_add, Nat.mul_comm 10 a, Nat.mul_assoc, Nat.mul_comm 10, Nat.add_assoc]
theorem decN_append (l m : List Nat) : decN (l ++ m) = decN l * 10 ^ m.length + decN m := by
  rw [decN, List.foldl_append]
  exact decN_from m _
theorem decN_cons (x : Nat) (l : List Nat) : decN (x :: l) = (x - 48) * 10 ^ l.length + decN l := by
  have := decN_append [x] l
  simpa [decN] using this
theorem decN_low (n : Nat) : ∀ j, decN (low j n) = n % 10 ^ j
  | 0 => by simp [low, decN, Nat.mod_one]
  | j + 1 => by
    rw [low, decN_cons, low_len, decN_low n j, Nat.add_sub_cancel_left, Nat.pow_succ, Nat.mod_mul, Nat.mul_comm (10 ^ j), Nat.add_comm]
theorem low_dig (n : Nat) : ∀ j, ∀ b ∈ low j n, 48 ≤ b ∧ b ≤ 57
  | 0 => by simp [low]
  | j + 1 => by
    intro b hb
    rw [low, List.mem_cons] at hb
    rcases hb with rfl | hb
    · omega
    · exact low_dig n j b hb
theorem digs_room {u v n l : Nat} (hu : 0 < u) (hv : u * 10 ^ l ≤ v) (hn : (digs v).length = n) : l < 10 * n := by
  have h1 : v < 4294967296 ^ n := by rw [← hn]; exact lt_digs_len v
  have h2 : 4294967296 ^ n ≤ (10 ^ 10) ^ n := Nat.pow_le_pow_left (by decide) n
  rw [← Nat.pow_mul] at h2
  have h3 : 10 ^ l ≤ u * 10 ^ l := Nat.le_mul_of_pos_left _ hu
  exact (Nat.pow_lt_pow_iff_right (by decide : 1 < 10)).1 (by omega : 10 ^ l < 10 ^ (10 * n))
/-- A slice of characters comes back that stand for v. -/
def RetBytes (w : World) (v : Nat) (e : Ending) (w' : World) : Prop := ∃ g off L cap pad bs, e = .returned (.slice (some ⟨g, off, none⟩) L cap) ∧ RowB w' g 5 (pad ++ bs) ∧ pad.length = off ∧ bs.length = L ∧ (∀ b ∈ bs, 48 ≤ b ∧ b ≤ 57) ∧ decN bs = v ∧ L ≤ cap ∧ L ≤ 200000 ∧ Below w.heap.size w w'
end Go.Proofs.YtclmenpclkmfeaaDoor
namespace Go.Proofs.YtclmenpclkmfeaaDoor
open Go.Shelf
end Go.Proofs.YtclmenpclkmfeaaDoor
namespace Go.Proofs.YtclmenpclkmfeaaDoor
open Go.RowKit
/-- The struct at block g: as it was (not yet written), or holding the integer z. -/
def BlkF (w : World) (g : Nat) (a0 a1 : Value) (st : Bool) (z : Int) : Prop := (st = false → Slot2 w g a0 a1) ∧ (st = true → IntAt w g z)
theorem BlkF.below {w w' : World} {g : Nat} {a0 a1 : Value} {st : Bool} {z : Int} (h : BlkF w g a0 a1 st z) (hb : Below w.heap.size w w') : BlkF w' g a0 a1 st z := ⟨fun e => (h.1 e).after hb, fun e => (h.2 e).after hb⟩
theorem BlkF.start {w : World} {g : Nat} {a0 a1 : Value} {z : Int} (h : Slot2 w g a0 a1) : BlkF w g a0 a1 false z := ⟨fun _ => h, (fun e => by cases e)⟩
theorem BlkF.far2 {w : World} {g : Nat} {a0 a1 : Value} {st : Bool} {z : Int} (h : BlkF w g a0 a1 st z) {g' : Nat} (hne : g ≠ g') {b0 b1 : Value} (hs : Slot2 w g' b0 b1) (n0 : noLimb b0 = true) (n1 : noLimb b1 = true) (u0 u1 : Value) : BlkF ((w.setCell ⟨g', 0, none⟩ u0).setCell ⟨g', 1, none⟩ u1) g a0 a1 st z :=
  ⟨fun e => (h.1 e).far2 hne u0 u1, fun e => (h.2 e).far2 hne hs n0 n1 u0 u1⟩
theorem BlkF.near {w : World} {g : Nat} {a0 a1 : Value} {z : Int} {neg : Bool} {A : Option Addr} {n c : Nat} (hi : IsInt w neg A n c z) (hs : Slot2 w g a0 a1) (n0 : noLimb a0 = true) (n1 : noLimb a1 = true) : BlkF ((w.setCell ⟨g, 0, none⟩ (.bool neg)).setCell ⟨g, 1, none⟩ (.slice A n c)) g a0 a1 true z :=
  ⟨(fun e => by cases e), fun _ => IntAt.near2 hi hs n0 n1⟩
/-- The same, where the struct holds an integer from the start. -/
def BlkI (w : World) (g : Nat) (neg : Bool) (A : Option Addr) (n c : Nat) (z0 : Int) (st : Bool) (z : Int) : Prop := (st = false → Slot2 w g (.bool neg) (.slice A n c) ∧ IsInt w neg A n c z0) ∧ (st = true → IntAt w g z)
section
variable {w w' : World} {g : Nat} {neg : Bool} {A : Option Addr} {n c : Nat} {z0 z : Int} {st : Bool}
theorem BlkI.below (h : BlkI w g neg A n c z0 st z) (hb : Below w.heap.size w w') : BlkI w' g neg A n c z0 st z := ⟨fun e => ⟨(h.1 e).1.after hb, (h.1 e).2.below hb⟩, fun e => (h.2 e).after hb⟩
theorem BlkI.start (h : Slot2 w g (.bool neg) (.slice A n c)) (hi : IsInt w neg A n c z0) : BlkI w.drew g neg A n c z0 false z := ⟨fun _ => ⟨h.drew, hi.below (Below.refl _ _).drew⟩, (fun e => by cases e)⟩
theorem BlkI.far2 (h : BlkI w g neg A n c z0 st z) {g' : Nat} (hne : g ≠ g') {b0 b1 : Value} (hs : Slot2 w g' b0 b1) (n0 : noLimb b0 = true) (n1 : noLimb b1 = true) (u0 u1 : Value) : BlkI ((w.setCell ⟨g', 0, none⟩ u0).setCell ⟨g', 1, none⟩ u1) g neg A n c z0 st z :=
  ⟨fun e => ⟨(h.1 e).1.far2 hne u0 u1, (h.1 e).2.set2 hs n0 n1 u0 u1⟩, fun e => (h.2 e).far2 hne hs n0 n1 u0 u1⟩
theorem BlkI.near {neg' : Bool} {A' : Option Addr} {n' c' : Nat} (hi : IsInt w neg' A' n' c' z) (hs : Slot2 w g (.bool neg) (.slice A n c)) : BlkI ((w.setCell ⟨g, 0, none⟩ (.bool neg')).setCell ⟨g, 1, none⟩ (.slice A' n' c')) g neg A n c z0 true z :=
  ⟨(fun e => by cases e), fun _ => IntAt.near2 hi hs rfl rfl⟩
theorem BlkI.at_ (h : BlkI w g neg A n c z0 false z) : IntAt w g z0 := ⟨neg, A, n, c, (h.1 rfl).1, (h.1 rfl).2⟩
end
end Go.Proofs.YtclmenpclkmfeaaDoor
namespace Go.Proofs.YtclmenpclkmfeaaDoor
/-- What Cmp returns. -/
def cq (a b : Rat) : Int := if a < b then -1 else if b < a then 1 else 0
theorem lt_asy {a b : Rat} (h : a < b) : ¬ b < a := fun h2 => by
  have := Rat.lt_iff a b |>.1 h
  have := Rat.lt_iff b a |>.1 h2
  omega
theorem eq_of {a b : Rat} (h1 : ¬ a < b) (h2 : ¬ b < a) : a = b := Rat.le_antisymm (Rat.not_lt.1 h2) (Rat.not_lt.1 h1)
theorem cq_neg (a b : Rat) : cq a b = -cq b a := by
  unfold cq
  by_cases h1 : a < b
  · rw [if_pos h1, if_neg (lt_asy h1), if_pos h1]
  · by_cases h2 : b < a
    · rw [if_neg h1, if_pos h2, if_pos h2]; rfl
    · rw [if_neg h1, if_neg h2, if_neg h2, if_neg h1]; rfl
theorem cq_zero (a b : Rat) : cq a b = 0 ↔ a = b := by
  unfold cq
  constructor
  · intro h
    by_cases h1 : a < b
    · rw [if_pos h1] at h; omega
    · by_cases h2 : b < a
      · rw [if_neg h1, if_pos h2] at h; omega
      · exact eq_of h1 h2
  · rintro rfl
    rw [if_neg Rat.lt_irrefl, if_neg Rat.lt_irrefl]
theorem cq_pos (a b : Rat) : 0 < cq a b ↔ b < a := by
  unfold cq
  by_cases h1 : a < b
  · rw [if_pos h1]; exact ⟨fun h => by omega, fun h => absurd h (lt_asy h1)⟩
  · by_cases h2 : b < a
    · rw [if_neg h1, if_pos h2]; exact ⟨fun _ => h2, fun _ => by omega⟩
    · rw [if_neg h1, if_neg h2]; exact ⟨fun h => by omega, fun h => absurd h h2⟩
theorem cq_chain (a b c : Rat) : 0 < cq a b ∨ 0 < cq b c ∨ cq a c ≤ 0 := by
  by_cases h1 : 0 < cq a b
  · exact .inl h1
  · by_cases h2 : 0 < cq b c
    · exact .inr (.inl h2)
    · refine .inr (.inr ?_)
      rw [cq_pos] at h1 h2
      have h3 : ¬ c < a := Rat.not_lt.2 (Rat.le_trans (Rat.not_lt.1 h1) (Rat.not_lt.1 h2))
      rw [← cq_pos a c] at h3
      omega
theorem cq_add (a b c : Rat) : cq (a + c) (b + c) = cq a b := by
  unfold cq; simp only [Rat.add_lt_add_right]
theorem cq_mul (a b c : Rat) (hc : 0 < c) : cq (a * c) (b * c) = cq a b := by
  unfold cq; simp only [Rat.mul_lt_mul_right hc]
theorem num_pos {a : Rat} : 0 < a.num ↔ 0 < a := by
  rw [Rat.lt_iff]; simp
theorem num_neg {a : Rat} : a.num < 0 ↔ a < 0 := by
  rw [Rat.lt_iff]; simp
theorem cq_sub (a b : Rat) : (if (a - b).num < 0 then -1 else if 0 < (a - b).num then 1 else 0 : Int) = cq a b := by
  unfold cq
  have h1 : (a - b).num < 0 ↔ a < b := by
    rw [num_neg, ← Rat.neg_lt_neg_iff, Rat.neg_zero, Rat.neg_sub, ← Rat.lt_iff_sub_pos]
  have h2 : 0 < (a - b).num ↔ b < a := by rw [num_pos, ← Rat.lt_iff_sub_pos]
  by_cases h3 : a < b
  · rw [if_pos (h1.2 h3), if_pos h3]
  · rw [if_neg (mt h1.1 h3), if_neg h3]
    by_cases h4 : b < a
    · rw [if_pos (h2.2 h4), if_pos h4]
    · rw [if_neg (mt h2.1 h4), if_neg h4]
/-- What Cmp compares. -/
theorem cq_of (a b : Rat) : (if a.num * b.den < b.num * a.den then -1 else if b.num * a.den < a.num * b.den then 1 else 0 : Int) = cq a b := by
  unfold cq; simp only [Rat.lt_iff]
/-- The distances of floor and nearest integer. -/
theorem fl_low (a : Rat) : 0 ≤ a - (a.floor : Rat) ∧ a - (a.floor : Rat) < 1 := by
  constructor
  · exact (Rat.le_iff_sub_nonneg _ _).1 (Rat.floor_le a)
  · rw [Rat.sub_lt_iff, Rat.add_comm]
    have := Rat.lt_floor_add_one a
    rwa [Rat.intCast_add] at this
theorem fl_int (a : Rat) : a - (a.floor : Rat) = 0 ↔ a.den = 1 := by
  constructor
  · intro h
    have h2 : a = (a.floor : Rat) := by
      have := Rat.sub_add_cancel (a := a) (b := (a.floor : Rat))
      rw [h, Rat.zero_add] at this
      exact this.symm
    rw [h2]; rfl
  · intro h
    have h2 : a = ((a.num : Int) : Rat) := Rat.ext rfl (by rw [h]; rfl)
    rw [h2, Rat.floor_intCast, Rat.sub_self]


theorem hf : (Rat.divInt 1 2) + (Rat.divInt 1 2) = 1 := by decide +kernel
theorem hn : Rat.divInt (-1) 2 = -(Rat.divInt 1 2) := by decide +kernel
/-- The nearest integer: its distance. -/
theorem rd_off (a : Rat) : Rat.divInt (-1) 2 < ((a + Rat.divInt 1 2).floor : Rat) - a ∧ ((a + Rat.divInt 1 2).floor : Rat) - a ≤ Rat.divInt 1 2 := by
  have h1 := Rat.floor_le (a + Rat.divInt 1 2)
  have h2 := Rat.lt_floor_add_one (a + Rat.divInt 1 2)
  rw [Rat.intCast_add] at h2
  generalize (a + Rat.divInt 1 2).floor = F at *
  have hh := hf
  rw [hn]
  generalize Rat.divInt 1 2 = H at *
  constructor
  · rw [Rat.lt_sub_right_iff_add_lt]
    have h3 : a + H - 1 < (F : Rat) := (Rat.sub_lt_iff).2 h2
    have h4 : a + H - 1 = -H + a := by
      rw [← hh, Rat.sub_eq_add_neg, Rat.neg_add, Rat.add_assoc, ← Rat.add_assoc H, Rat.add_neg_cancel, Rat.zero_add, Rat.add_comm]
    rwa [h4] at h3
  · rw [Rat.sub_right_le_iff_le_add, Rat.add_comm]; exact h1
theorem rd_int (a : Rat) : ((a + Rat.divInt 1 2).floor : Rat) - a = 0 ↔ a.den = 1 := by
  constructor
  · intro h
    have h2 : a = ((a + Rat.divInt 1 2).floor : Rat) := by
      have := Rat.sub_add_cancel (a := ((a + Rat.divInt 1 2).floor : Rat)) (b := a)
      rw [h, Rat.zero_add] at this
      exact this
    rw [h2]; rfl
  · intro h
    have h2 : a = ((a.num : Int) : Rat) := Rat.ext rfl (by rw [h]; rfl)
    have h3 : (a + Rat.divInt 1 2).floor = a.num := by
      rw [h2, Rat.add_comm, Rat.floor_add_intCast]
      have : (Rat.divInt 1 2).floor = 0 := by decide +kernel
      rw [this]; simp
    rw [h3, ← h2, Rat.sub_self]
end Go.Proofs.YtclmenpclkmfeaaDoor
namespace Go.Proofs.YtclmenpclkmfeaaDoor
/-- Two lines that follow each other: remainders and factors. -/
structure LInv (a m r0 s0 r1 s1 : Int) : Prop where
  c0 : m ∣ r0 - s0 * a
  c1 : m ∣ r1 - s1 * a
  p1 : 0 ≤ r1
  lt : r1 < r0
  le : r0 ≤ m
  alt : (0 < s1 ∧ s0 ≤ 0 ∧ r0 * s1 - r1 * s0 = m) ∨ (s1 < 0 ∧ 0 ≤ s0 ∧ r0 * s1 - r1 * s0 = -m)
  gr : s0.natAbs ≤ s1.natAbs
theorem LInv.start (a m : Int) (hm : 0 < m) : LInv a m m 0 (a % m) 1 := by
  refine ⟨⟨1, by omega⟩, ⟨-(a / m), ?_⟩, Int.emod_nonneg _ (by omega), Int.emod_lt_of_pos _ hm, Int.le_refl _, .inl ⟨by decide, Int.le_refl _, by omega⟩, by decide⟩
  have := Int.emod_add_mul_ediv a m
  rw [Int.mul_neg]; omega
theorem mul_mono1 {q s : Int} (hq : 1 ≤ q) (hs : 0 ≤ s) : s ≤ q * s := by
  have := Int.mul_le_mul_of_nonneg_right hq hs
  rwa [Int.one_mul] at this
theorem LInv.step {a m r0 s0 r1 s1 : Int} (h : LInv a m r0 s0 r1 s1) (hr : 0 < r1) : LInv a m r1 s1 (r0 % r1) (s0 - r0 / r1 * s1) := by
  obtain ⟨c0, c1, p1, lt, le, alt, gr⟩ := h
  have e := Int.emod_add_mul_ediv r0 r1
  have hq : 1 ≤ r0 / r1 := Int.le_ediv_of_mul_le hr (by omega)
  generalize r0 / r1 = q at *
  have hlt := Int.emod_lt_of_pos r0 hr
  have hnn := Int.emod_nonneg r0 (Int.ne_of_gt hr)
  generalize r0 % r1 = r2 at *
  have e2 : r2 = r0 - r1 * q := by omega
  refine ⟨c1, ?_, hnn, hlt, by omega, ?_, ?_⟩
  · have h1 : r2 - (s0 - q * s1) * a = (r0 - s0 * a) - q * (r1 - s1 * a) := by rw [e2]; grind
    rw [h1]; exact Int.dvd_sub c0 (Int.dvd_mul_of_dvd_right c1)
  · have h2 : r1 * (s0 - q * s1) - r2 * s1 = -(r0 * s1 - r1 * s0) := by rw [e2]; grind
    rw [h2]
    rcases alt with ⟨h3, h4, h5⟩ | ⟨h3, h4, h5⟩
    · have := mul_mono1 hq (Int.le_of_lt h3)
      exact .inr ⟨by omega, by omega, by omega⟩
    · have := mul_mono1 (s := -s1) hq (by omega)
      rw [Int.mul_neg] at this
      exact .inl ⟨by omega, by omega, by omega⟩
  · rcases alt with ⟨h3, h4, h5⟩ | ⟨h3, h4, h5⟩
    · have := mul_mono1 hq (Int.le_of_lt h3); omega
    · have := mul_mono1 (s := -s1) hq (by omega)
      rw [Int.mul_neg] at this; omega
/-- A good fraction is an integer combination of two lines that follow each other. -/
theorem LInv.comb {a m r0 s0 r1 s1 n d : Int} (h : LInv a m r0 s0 r1 s1) (hc : m ∣ n - d * a) (hm : 0 < m) : ∃ x y : Int, n = x * r0 + y * r1 ∧ d = x * s0 + y * s1 := by
  obtain ⟨c0, c1, p1, lt, le, alt, gr⟩ := h
  obtain ⟨k, hk⟩ := hc
  obtain ⟨k0, hk0⟩ := c0
  obtain ⟨k1, hk1⟩ := c1
  have hn : n = d * a + m * k := by omega
  have h0 : r0 = s0 * a + m * k0 := by omega
  have h1 : r1 = s1 * a + m * k1 := by omega
  have hm0 : m ≠ 0 := by omega
  have hx : n * s1 - d * r1 = m * (k * s1 - d * k1) := by rw [hn, h1]; grind
  have hy : d * r0 - n * s0 = m * (d * k0 - k * s0) := by rw [hn, h0]; grind
  rcases alt with ⟨_, _, e⟩ | ⟨_, _, e⟩
  · refine ⟨k * s1 - d * k1, d * k0 - k * s0, Int.eq_of_mul_eq_mul_left hm0 ?_, Int.eq_of_mul_eq_mul_left hm0 ?_⟩
    · have : m * ((k * s1 - d * k1) * r0 + (d * k0 - k * s0) * r1) = (n * s1 - d * r1) * r0 + (d * r0 - n * s0) * r1 := by rw [hx, hy]; grind
      rw [this, ← e]; grind
    · have : m * ((k * s1 - d * k1) * s0 + (d * k0 - k * s0) * s1) = (n * s1 - d * r1) * s0 + (d * r0 - n * s0) * s1 := by rw [hx, hy]; grind
      rw [this, ← e]; grind
  · have e' : m = r1 * s0 - r0 * s1 := by omega
    refine ⟨-(k * s1 - d * k1), -(d * k0 - k * s0), Int.eq_of_mul_eq_mul_left hm0 ?_, Int.eq_of_mul_eq_mul_left hm0 ?_⟩
    · have : m * (-(k * s1 - d * k1) * r0 + -(d * k0 - k * s0) * r1) = -((n * s1 - d * r1) * r0 + (d * r0 - n * s0) * r1) := by rw [hx, hy]; grind
      rw [this, e']; grind
    · have : m * (-(k * s1 - d * k1) * s0 + -(d * k0 - k * s0) * s1) = -((n * s1 - d * r1) * s0 + (d * r0 - n * s0) * s1) := by rw [hx, hy]; grind
      rw [this, e']; grind
theorem LInv.comb0 {a m r0 s0 r1 s1 n d : Int} (h : LInv a m r0 s0 r1 s1) (hc : m ∣ n - d * a) (hm : 0 < m) (h0 : n * s1 = d * r1) : ∃ y : Int, n = y * r1 ∧ d = y * s1 := by
  obtain ⟨x, y, hn, hd⟩ := h.comb hc hm
  have hx : x * (r0 * s1 - r1 * s0) = 0 := by
    have : x * (r0 * s1 - r1 * s0) = n * s1 - d * r1 := by rw [hn, hd]; grind
    rw [this, h0]; omega
  have hx0 : x = 0 := by
    rcases Int.mul_eq_zero.1 hx with h1 | h1
    · exact h1
    · rcases h.alt with ⟨_, _, e⟩ | ⟨_, _, e⟩ <;> omega
  exact ⟨y, by rw [hn, hx0]; omega, by rw [hd, hx0]; omega⟩
theorem sq_nn (r : Int) : 0 ≤ r * r := by
  rcases Int.le_total 0 r with h | h
  · exact Int.mul_nonneg h h
  · exact Int.mul_nonneg_of_nonpos_of_nonpos h h
theorem mul_ge {x r : Int} (hx : 1 ≤ x) (hr : 0 ≤ r) : r ≤ x * r := mul_mono1 hx hr
theorem mul_le' {x r : Int} (hx : x ≤ -1) (hr : 0 ≤ r) : x * r ≤ -r := by
  have := mul_mono1 (q := -x) (s := r) (by omega) hr
  rw [Int.neg_mul] at this; omega
/-- Where there is a good fraction, no factor is too large while the remainder before is. -/
theorem LInv.factor {a m r0 s0 r1 s1 n d r : Int} (h : LInv a m r0 s0 r1 s1) (hc : m ∣ n - d * a) (hm : 0 < m) (hr : r < r0) (hn1 : -r ≤ n) (hn2 : n ≤ r) (hd1 : 0 < d) (hd2 : d ≤ r) : -r ≤ s1 ∧ s1 ≤ r := by
  obtain ⟨x, y, hn, hd⟩ := h.comb hc hm
  have p1 := h.p1
  have p0 : 0 ≤ r0 := by have := h.lt; omega
  rcases Int.lt_trichotomy x 0 with hx | hx | hx
  · rcases Int.lt_or_le 0 y with hy | hy
    · rcases h.alt with ⟨a1, a2, _⟩ | ⟨a1, a2, _⟩
      · have h1 := mul_ge (x := y) (r := s1) (by omega) (by omega)
        have h2 : 0 ≤ x * s0 := Int.mul_nonneg_of_nonpos_of_nonpos (by omega) a2
        omega
      · have h1 := mul_ge (x := y) (r := -s1) (by omega) (by omega)
        rw [Int.mul_neg] at h1
        have h2 : x * s0 ≤ 0 := Int.mul_nonpos_of_nonpos_of_nonneg (by omega) a2
        omega
    · have h1 := mul_le' (x := x) (r := r0) (by omega) p0
      have h2 : y * r1 ≤ 0 := Int.mul_nonpos_of_nonpos_of_nonneg hy p1
      omega
  · subst hx
    rw [Int.zero_mul, Int.zero_add] at hd
    have hy : y ≠ 0 := by rintro rfl; omega
    rcases Int.lt_or_gt_of_ne hy with hy | hy
    · rcases Int.lt_or_le 0 s1 with hs | hs
      · have := mul_le' (x := y) (r := s1) (by omega) (by omega); omega
      · have := mul_le' (x := y) (r := -s1) (by omega) (by omega)
        rw [Int.mul_neg] at this; omega
    · rcases Int.lt_or_le 0 s1 with hs | hs
      · have := mul_ge (x := y) (r := s1) (by omega) (by omega); omega
      · have := mul_ge (x := y) (r := -s1) (by omega) (by omega)
        rw [Int.mul_neg] at this; omega
  · rcases Int.lt_or_le y 0 with hy | hy
    · rcases h.alt with ⟨a1, a2, _⟩ | ⟨a1, a2, _⟩
      · have h1 := mul_le' (x := y) (r := s1) (by omega) (by omega)
        have h2 : x * s0 ≤ 0 := Int.mul_nonpos_of_nonneg_of_nonpos (by omega) a2
        omega
      · have h1 := mul_le' (x := y) (r := -s1) (by omega) (by omega)
        rw [Int.mul_neg] at h1
        have h2 : 0 ≤ x * s0 := Int.mul_nonneg (by omega) a2
        omega
    · have h1 := mul_ge (x := x) (r := r0) (by omega) p0
      have h2 : 0 ≤ y * r1 := Int.mul_nonneg hy p1
      omega
/-- The line within the bound is the good fraction. -/
theorem LInv.same {a m r0 s0 r1 s1 n d r : Int} (h : LInv a m r0 s0 r1 s1) (hc : m ∣ n - d * a) (hb : 2 * (r * r) < m) (h1 : r1 ≤ r) (h2 : -r ≤ s1 ∧ s1 ≤ r) (hn1 : -r ≤ n) (hn2 : n ≤ r) (hd1 : 0 < d) (hd2 : d ≤ r) : n * s1 = d * r1 := by
  have hm : 0 < m := by have := sq_nn r; omega
  obtain ⟨k, hk⟩ := hc
  obtain ⟨k1, hk1⟩ := h.c1
  have hdv : m ∣ n * s1 - d * r1 := ⟨k * s1 - d * k1, by rw [show n = d * a + m * k by omega, show r1 = s1 * a + m * k1 by omega]; grind⟩
  have hr : 0 ≤ r := by omega
  have e1 : (n * s1).natAbs ≤ (r * r).natAbs := by
    rw [Int.natAbs_mul, Int.natAbs_mul]
    exact Nat.mul_le_mul (by omega) (by omega)
  have e2 : (d * r1).natAbs ≤ (r * r).natAbs := by
    rw [Int.natAbs_mul, Int.natAbs_mul]
    have := h.p1
    exact Nat.mul_le_mul (by omega) (by omega)
  have hrr : 0 ≤ r * r := sq_nn r
  obtain ⟨t, ht⟩ := hdv
  have ht0 : t = 0 := by
    rcases Int.lt_trichotomy t 0 with h | h | h
    · have := mul_le' (x := t) (r := m) (by omega) (by omega)
      rw [Int.mul_comm] at this; omega
    · exact h
    · have := mul_ge (x := t) (r := m) (by omega) (by omega)
      rw [Int.mul_comm] at this; omega
  rw [ht0, Int.mul_zero] at ht; omega
/-- What Rational asks of a numerator and a denominator. -/
structure Good (a m r n d : Int) : Prop where
  cong : m ∣ n - d * a
  nlo : -r ≤ n
  nhi : n ≤ r
  dpos : 0 < d
  dhi : d ≤ r
  cop : Int.gcd d m = 1
theorem LInv.s1_ne {a m r0 s0 r1 s1 : Int} (h : LInv a m r0 s0 r1 s1) : s1 ≠ 0 := by
  rcases h.alt with ⟨h1, _, _⟩ | ⟨h1, _, _⟩ <;> omega
theorem den_self {r1 s1 : Int} (hs : s1 ≠ 0) : (Rat.divInt r1 s1).den = s1.natAbs ↔ Int.gcd s1 r1 = 1 := by
  rw [Rat.den_divInt, if_neg hs]
  have hg : 0 < Int.gcd s1 r1 := Nat.gcd_pos_of_pos_left _ (by omega)
  constructor
  · intro h
    rcases Nat.lt_or_ge 1 (Int.gcd s1 r1) with h1 | h1
    · have := Nat.div_lt_self (show 0 < s1.natAbs by omega) h1; omega
    · omega
  · intro h; rw [h, Nat.div_one]
theorem LInv.sound {a m r0 s0 r1 s1 r : Int} (h : LInv a m r0 s0 r1 s1) (h1 : r1 ≤ r) (h2 : -r ≤ s1 ∧ s1 ≤ r) (hd : (Rat.divInt r1 s1).den = s1.natAbs) : Good a m r (Rat.divInt r1 s1).num ((Rat.divInt r1 s1).den : Int) := by
  have hs := h.s1_ne
  have hg := (den_self hs).1 hd
  have hn : (Rat.divInt r1 s1).num = s1.sign * r1 := by rw [Rat.num_divInt, hg]; simp
  have p1 := h.p1
  rw [hn, hd]
  have hsg : s1.sign * s1 = (s1.natAbs : Int) := by
    rcases Int.lt_or_gt_of_ne hs with h3 | h3
    · rw [Int.sign_eq_neg_one_of_neg h3]; omega
    · rw [Int.sign_eq_one_of_pos h3]; omega
  refine ⟨?_, ?_, ?_, by omega, by omega, ?_⟩
  · have : s1.sign * r1 - (s1.natAbs : Int) * a = s1.sign * (r1 - s1 * a) := by rw [← hsg]; grind
    rw [this]; exact Int.dvd_mul_of_dvd_right h.c1
  · rcases Int.lt_or_gt_of_ne hs with h3 | h3
    · rw [Int.sign_eq_neg_one_of_neg h3]; omega
    · rw [Int.sign_eq_one_of_pos h3]; omega
  · rcases Int.lt_or_gt_of_ne hs with h3 | h3
    · rw [Int.sign_eq_neg_one_of_neg h3]; omega
    · rw [Int.sign_eq_one_of_pos h3]; omega
  · obtain ⟨k1, hk1⟩ := h.c1
    have hc : Int.gcd (s1.natAbs : Int) m = Int.gcd s1 m := by unfold Int.gcd; rw [Int.natAbs_natCast]
    rw [hc]
    have e1 : ((Int.gcd s1 m : Nat) : Int) ∣ s1 := Int.gcd_dvd_left ..
    have e2 : ((Int.gcd s1 m : Nat) : Int) ∣ m := Int.gcd_dvd_right ..
    have e3 : ((Int.gcd s1 m : Nat) : Int) ∣ r1 := by
      have : r1 = s1 * a + m * k1 := by omega
      rw [this]; exact Int.dvd_add (Int.dvd_mul_of_dvd_left e1) (Int.dvd_mul_of_dvd_left e2)
    have e4 : Int.gcd s1 m ∣ Int.gcd s1 r1 := Int.dvd_gcd e1 e3
    rw [hg] at e4
    exact Nat.dvd_one.1 e4
theorem LInv.complete {a m r0 s0 r1 s1 r n d : Int} (h : LInv a m r0 s0 r1 s1) (hg : Good a m r n d) (hb : 2 * (r * r) < m) (hr : r < r0) (h1 : r1 ≤ r) : (Rat.divInt r1 s1).den = s1.natAbs ∧ Rat.divInt r1 s1 = Rat.divInt n d := by
  have hm : 0 < m := by have := sq_nn r; omega
  have h2 := h.factor hg.cong hm hr hg.nlo hg.nhi hg.dpos hg.dhi
  have hs := h.s1_ne
  have he := h.same hg.cong hb h1 h2 hg.nlo hg.nhi hg.dpos hg.dhi
  obtain ⟨y, hn, hd⟩ := h.comb0 hg.cong hm he
  have hc : Int.gcd s1 m = 1 := by
    have e1 : ((Int.gcd s1 m : Nat) : Int) ∣ d := by rw [hd]; exact Int.dvd_mul_of_dvd_right (Int.gcd_dvd_left ..)
    have e4 : Int.gcd s1 m ∣ Int.gcd d m := Int.dvd_gcd e1 (Int.gcd_dvd_right ..)
    rw [hg.cop] at e4
    exact Nat.dvd_one.1 e4
  have hq : Int.gcd s1 r1 = 1 := by
    have e1 : ((Int.gcd s1 r1 : Nat) : Int) ∣ s1 := Int.gcd_dvd_left ..
    have e2 : ((Int.gcd s1 r1 : Nat) : Int) ∣ r1 := Int.gcd_dvd_right ..
    have e3 : ((Int.gcd s1 r1 : Nat) : Int) ∣ m := by
      have e5 : ((Int.gcd s1 r1 : Nat) : Int) ∣ r0 * s1 - r1 * s0 := Int.dvd_sub (Int.dvd_mul_of_dvd_right e1) (Int.dvd_mul_of_dvd_left e2)
      rcases h.alt with ⟨_, _, e⟩ | ⟨_, _, e⟩
      · rwa [e] at e5
      · rw [e] at e5; exact Int.dvd_neg.1 e5
    have e4 : Int.gcd s1 r1 ∣ Int.gcd s1 m := Int.dvd_gcd e1 e3
    rw [hc] at e4
    exact Nat.dvd_one.1 e4
  refine ⟨(den_self hs).2 hq, ?_⟩
  rw [Rat.divInt_eq_divInt_iff hs (by have := hg.dpos; omega)]
  rw [he, Int.mul_comm]
/-- While the remainder is above the bound, the factor is within it, where there is a good fraction. -/
theorem LInv.goes {a m r0 s0 r1 s1 r n d : Int} (h : LInv a m r0 s0 r1 s1) (hg : Good a m r n d) (hm : 0 < m) (hr : r < r0) : -r ≤ s1 ∧ s1 ≤ r := h.factor hg.cong hm hr hg.nlo hg.nhi hg.dpos hg.dhi
/-- There is at most one good fraction. -/
theorem Good.unique {a m r n d n' d' : Int} (h : Good a m r n d) (h' : Good a m r n' d') (hb : 2 * (r * r) < m) : n * d' = n' * d := by
  obtain ⟨k, hk⟩ := h.cong
  obtain ⟨k', hk'⟩ := h'.cong
  have hdv : n * d' - n' * d = m * (k * d' - k' * d) := by rw [show n = d * a + m * k by omega, show n' = d' * a + m * k' by omega]; grind
  have h1 := h.nlo
  have h2 := h.nhi
  have h3 := h.dpos
  have h4 := h.dhi
  have h5 := h'.nlo
  have h6 := h'.nhi
  have h7 := h'.dpos
  have h8 := h'.dhi
  have e1 : (n * d').natAbs ≤ (r * r).natAbs := by
    rw [Int.natAbs_mul, Int.natAbs_mul]
    exact Nat.mul_le_mul (by omega) (by omega)
  have e2 : (n' * d).natAbs ≤ (r * r).natAbs := by
    rw [Int.natAbs_mul, Int.natAbs_mul]
    exact Nat.mul_le_mul (by omega) (by omega)
  have hrr := sq_nn r
  generalize k * d' - k' * d = t at *
  have ht0 : t = 0 := by
    rcases Int.lt_trichotomy t 0 with h | h | h
    · have := mul_le' (x := t) (r := m) (by omega) (by omega)
      rw [Int.mul_comm] at this; omega
    · exact h
    · have := mul_ge (x := t) (r := m) (by omega) (by omega)
      rw [Int.mul_comm] at this; omega
  rw [ht0, Int.mul_zero] at hdv; omega
/-- The bound of numerators and denominators. -/
structure Bnd (m r : Int) : Prop where
  nn : 0 ≤ r
  lo : r * r ≤ (m - 1) / 2
  hi : (m - 1) / 2 < (r + 1) * (r + 1)
theorem Bnd.lt {m r : Int} (h : Bnd m r) (hm : 2 ≤ m) : 2 * (r * r) < m ∧ r < m := by
  have h1 := h.lo
  have h2 := h.nn
  have h3 : 2 * (r * r) < m := by omega
  refine ⟨h3, ?_⟩
  rcases Int.lt_or_le r 1 with h4 | h4
  · omega
  · have := mul_ge h4 h2; omega
/-- No factor is longer than the modulus. -/
theorem LInv.size {a m r0 s0 r1 s1 : Int} (h : LInv a m r0 s0 r1 s1) (hm : 0 < m) : s0.natAbs ≤ m.natAbs ∧ s1.natAbs ≤ m.natAbs ∧ r0.natAbs ≤ m.natAbs ∧ r1.natAbs ≤ m.natAbs := by
  have h1 := h.p1
  have h2 := h.lt
  have h3 := h.le
  have h4 := h.gr
  have h5 : s1.natAbs ≤ m.natAbs := by
    rcases h.alt with ⟨a1, a2, e⟩ | ⟨a1, a2, e⟩
    · have e1 := mul_ge (x := r0) (r := s1) (by omega) (by omega)
      have e2 : r1 * s0 ≤ 0 := Int.mul_nonpos_of_nonneg_of_nonpos h1 a2
      omega
    · have e1 := mul_ge (x := r0) (r := -s1) (by omega) (by omega)
      rw [Int.mul_neg] at e1
      have e2 : 0 ≤ r1 * s0 := Int.mul_nonneg h1 a2
      omega
  exact ⟨by omega, h5, by omega, by omega⟩
end Go.Proofs.YtclmenpclkmfeaaDoor
