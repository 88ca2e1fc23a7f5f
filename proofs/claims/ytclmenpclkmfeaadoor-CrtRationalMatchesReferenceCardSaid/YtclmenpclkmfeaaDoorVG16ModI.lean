/- The iterators of modular.Next and modular.Before: what they yield. Contracts of modular.firstPrime, Next and Before. Contracts of slices.Backward over limbs and of modular.Reduce. Contract of integer.divideLong, and of divide at any sizes. Contract of integer.divide at any sizes. Contract of integer.Root, from contracts of divide. -/
import Derived.RangeFuncNested
import Derived.RangeFuncBound
import Derived.RangeFuncCalls
import Derived.RangeFuncLeaves
import Derived.Shelf.Abstract
import Derived.Shelf.RegionOpen
import Derived.WalkKit
import Derived.OwnWalkIn
import Derived.TacticsInMore
import Derived.LoopNIn
import Derived.LoopIn
import Derived.Test.YtclmenpclkmfeaaDoorVG15DivModW
import Derived.RangeFuncFrom
import Derived.Test.YtclmenpclkmfeaaDoorVG0Words
import Derived.Test.YtclmenpclkmfeaaDoorVG4DlOnce
import Derived.Test.YtclmenpclkmfeaaDoorVG7AddB
namespace Go.Proofs.YtclmenpclkmfeaaDoor
open Go.RowKit Go.Shelf
attribute [local go_sem] Oper.semAt_some
/-- A word of 64 bits. -/
def wr64 (x : Nat) : Nat := x % 18446744073709551616
theorem wr64_lt (x : Nat) : wr64 x < 18446744073709551616 := Nat.mod_lt _ (by decide)
theorem wr64_of {x : Nat} (h : x < 18446744073709551616) : wr64 x = x := Nat.mod_eq_of_lt h
/-- The first k values of f. -/
def upto (f : Nat → Nat) (k : Nat) : List Nat := (List.range k).map f
theorem upto_succ (f : Nat → Nat) (k : Nat) : upto f (k + 1) = upto f k ++ [f k] := by simp [upto, List.range_succ]
theorem upto_len (f : Nat → Nat) (k : Nat) : (upto f k).length = k := by simp [upto]
theorem upto_add (f : Nat → Nat) (j : Nat) : ∀ d, ∃ t, upto f (j + d) = upto f j ++ t
  | 0 => ⟨[], by simp⟩
  | d + 1 => by
    obtain ⟨t, ht⟩ := upto_add f j d
    exact ⟨t ++ [f (j + d)], by rw [← Nat.add_assoc, upto_succ, ht, List.append_assoc]⟩
theorem upto_pre (f : Nat → Nat) {j k : Nat} (h : j ≤ k) : upto f j <+: upto f k := by
  obtain ⟨t, ht⟩ := upto_add f j (k - j)
  exact ⟨t, by rw [← ht]; congr 1; omega⟩
end Go.Proofs.YtclmenpclkmfeaaDoor
namespace Go.Proofs.YtclmenpclkmfeaaDoor
open Go.RowKit Go.Shelf
attribute [local go_sem] Oper.semAt_some
/-- r is the first number of xs that is taken for a prime, or 0. -/
def FirstIn (xs : List Nat) (r : Nat) : Prop := (r = 0 ∧ ∀ y ∈ xs, primeF (wr64 y) = false) ∨ ∃ pre x, pre ++ [x] <+: xs ∧ (∀ y ∈ pre, primeF (wr64 y) = false) ∧ primeF (wr64 x) = true ∧ r = wr64 x
theorem Drawn.keeps {w w' : World} (h : Drawn w w') : KeepsOthers w w' := by
  obtain ⟨q, rfl⟩ := h
  exact ⟨Nat.le_refl _, fun _ _ h _ => h⟩
theorem TabW.kept {A B : World} {row : Option Nat} (h : TabW A) (hg : A.grownBy B row) (hr : ∀ r, row = some r → ∃ o : Obj, A.heap[r]? = some o ∧ o.isCells = false) : TabW B :=
  ⟨fun j hj => cell_kept (h.t j hj) hg hr, cell_kept h.b0 hg hr, cell_kept h.b1 hg hr, cell_kept h.b2 hg hr, cell_kept h.b3 hg hr⟩
end Go.Proofs.YtclmenpclkmfeaaDoor
namespace Go.Proofs.YtclmenpclkmfeaaDoor
open Go.RowKit Go.Shelf
attribute [local go_sem] Oper.semAt_some
/-- A word of 32 bits. -/
def wr32 (x : Nat) : Nat := x % 4294967296
theorem wr32_lt (x : Nat) : wr32 x < 4294967296 := Nat.mod_lt _ (by decide)
theorem wr32_of {x : Nat} (h : x < 4294967296) : wr32 x = x := Nat.mod_eq_of_lt h
/-- The last k limbs with their places, the last one first. -/
def backs (xs : List Nat) (n : Nat) : Nat → List (Nat × Nat)
  | 0 => []
  | k + 1 => backs xs n k ++ [(n - 1 - k, xs.getD (n - 1 - k) 0)]
theorem backs_len (xs : List Nat) (n : Nat) : ∀ k, (backs xs n k).length = k
  | 0 => rfl
  | k + 1 => by rw [backs, List.length_append, backs_len xs n k]; rfl
theorem backs_add (xs : List Nat) (n j : Nat) : ∀ d, ∃ t, backs xs n (j + d) = backs xs n j ++ t
  | 0 => ⟨[], by simp⟩
  | d + 1 => by
    obtain ⟨t, ht⟩ := backs_add xs n j d
    exact ⟨t ++ [(n - 1 - (j + d), xs.getD (n - 1 - (j + d)) 0)], by rw [← Nat.add_assoc, backs, ht, List.append_assoc]⟩
theorem backs_pre (xs : List Nat) (n : Nat) {j k : Nat} (h : j ≤ k) : backs xs n j <+: backs xs n k := by
  obtain ⟨t, ht⟩ := backs_add xs n j (k - j)
  exact ⟨t, by rw [← ht]; congr 1; omega⟩
/-- What a round of the loop must keep. -/
def KpB (n₀ Bs : Nat) (W W' : World) : Prop := Below n₀ W W' ∧ W'.cell? ⟨Bs, 0, none⟩ = W.cell? ⟨Bs, 0, none⟩
set_option maxHeartbeats 1000000 in
theorem back_stops (F : Fence) (d : Nat) (hF : F.fn 97) (hro : F.round = none) (hd : 1 ≤ d) (Bs n₀ : Nat) (A : Option Addr) (n c : Nat) (xs : List Nat) (w : World) (hB : Bs < w.heap.size) (hn₀ : n₀ ≤ w.heap.size)
    (hc : w.cell? ⟨Bs, 0, none⟩ = some (.slice A n c)) (ha : Lim w n₀ A n c xs) :
    SeqStopsK F d Tryd.prog 97 #[.pointer (some ⟨Bs, 0, none⟩)] (fun y : Nat × Nat => #[.int .i64 (y.1 : Int), .int .u32 ((wr32 y.2 : Nat) : Int)]) (KpB n₀ Bs) (fun ys => ys = backs xs n n) (fun pre => pre <+: backs xs n n) n w := by
  intro l J Jx W hW _ _ hY h0
  have hBc : W.cell? ⟨Bs, 0, none⟩ = some (.slice A n c) := (hW.cell (p := ⟨Bs, 0, none⟩) hB).trans hc
  have hL : Lim W n₀ A n c xs := ha.below (hW.mono hn₀)
  have hcap := ha.cap
  refine callsIn_of_wp Tryd.func97 rfl hF ?_ hro
  simp only [Tryd.ntmps97, List.size_toArray, List.length_cons, List.length_nil, Nat.reduceAdd, Nat.reduceSub, Array.replicate_succ, Array.replicate_zero, List.push_toArray, List.append_toArray, List.nil_append, List.cons_append]
  gi_wp2
  gi_loopw [3] (fun s3 wr => ∃ k : Nat, s3 = .int .i64 ((n : Int) - 1 - k) ∧ k ≤ n ∧ wr.cell? ⟨Bs, 0, none⟩ = some (.slice A n c) ∧ Lim wr n₀ A n c xs ∧ J (backs xs n k) wr) (fun s3 _ => (intOf s3 + 1).toNat)
  case atStart => exact ⟨0, by simp, by omega, hBc, hL, h0⟩
  case round =>
    obtain ⟨k, rfl, hk, hcr, hlr, hJ⟩ := hrel
    by_cases hlt : k < n
    · obtain ⟨ad, rfl, _, x, hx, hxl, hcx⟩ := hlr.at_ (k := n - 1 - k) (by omega)
      have hyy := hY _ (n - 1 - k, xs.getD (n - 1 - k) 0) wr hJ (by rw [backs_len]; exact hlt)
      have he : ((n - 1 - k : Nat) : Int) = (n : Int) - 1 - k := by omega
      have hxx : wr32 (xs.getD (n - 1 - k) 0) = x := by rw [← hx.out]; exact wr32_of hxl
      dsimp only at hyy
      rw [he, hxx] at hyy
      obtain ⟨fn, tmps, assign, body, hy, hR⟩ := hyy
      have hlt2 : 0 ≤ (n : Int) - 1 - k := by omega
      have e1 : ((n : Int) - 1 - k).toNat = n - 1 - k := by omega
      clear he hxx
      gi_wp2
      refine hR.mono ?_
      rintro e W3 (⟨rfl, hJ3, hk3⟩ | ⟨rfl, hJx3⟩)
      · gi_wp2
        refine ⟨⟨k + 1, retV (by omega), by omega, hk3.2.trans hcr, hlr.below hk3.1, hJ3⟩, ?_⟩
        simp only [intOf]; omega
      · gi_wp2
        exact bodyPost_ret (results_none rfl _ _ _) rfl ⟨⟨_, rfl⟩, .inr ⟨_, backs_pre xs n (j := k + 1) (by omega), hJx3⟩⟩
    · have hlt2 : ¬ 0 ≤ (n : Int) - 1 - k := by omega
      have hke : k = n := by omega
      subst hke
      gi_wp2
      exact bodyPost_end (results_none rfl _ _ _) rfl ⟨⟨_, rfl⟩, .inl hJ⟩
set_option maxHeartbeats 400000 in
theorem back_any (A : Option Addr) (n c : Nat) (w : World) :
    Calls Tryd.prog 73 #[.slice A n c] w fun e w' => e = .returned (.func (.func 97) #[] #[.pointer (some ⟨w.heap.size, 0, none⟩)]) ∧ w' = w.alloc (.cells #[.slice A n c] 26) := by
  go_enter Tryd.func73, Tryd.ntmps73
  go_wp2
  go_ret
  exact ⟨rfl, rfl⟩
/-- The remainder of the limbs that have come. -/
def redF (p : Nat) (l : List (Nat × Nat)) : Nat := l.foldl (fun r q => (wr32 q.2 + 4294967296 * r) % p) 0
theorem redF_snoc (p : Nat) (l : List (Nat × Nat)) (q : Nat × Nat) : redF p (l ++ [q]) = (wr32 q.2 + 4294967296 * redF p l) % p := by
  rw [redF, List.foldl_append]; rfl
theorem redF_lt {p : Nat} (hp : 0 < p) (l : List (Nat × Nat)) : redF p l < p := by
  rcases List.eq_nil_or_concat l with rfl | ⟨l', q, rfl⟩
  · exact hp
  · rw [List.concat_eq_append, redF_snoc]; exact Nat.mod_lt _ hp
theorem redF_backs {p n : Nat} {xs : List Nat} (hlt : ∀ x ∈ xs, x < 4294967296) (hl : xs.length = n) : ∀ k, k ≤ n → redF p (backs xs n k) = val (xs.drop (n - k)) % p
  | 0, _ => by rw [Nat.sub_zero, ← hl, List.drop_length]; simp [backs, redF, val]
  | k + 1, h => by
    have ih := redF_backs (p := p) hlt hl k (by omega)
    have hx : xs.getD (n - 1 - k) 0 < 4294967296 := by
      rw [List.getD_eq_getElem?_getD, List.getElem?_eq_getElem (by omega)]
      exact hlt _ (List.getElem_mem _)
    rw [backs, redF_snoc, ih, wr32_of hx, show n - (k + 1) = n - 1 - k by omega, val_drop_cons (xs := xs) (k := n - 1 - k) (by omega), show n - 1 - k + 1 = n - k by omega, Nat.add_mod, Nat.mul_mod, Nat.mod_mod, ← Nat.mul_mod, ← Nat.add_mod]
theorem KpB.trans {n₀ Bs : Nat} {A B C : World} (h : KpB n₀ Bs A B) (k : KpB n₀ Bs B C) : KpB n₀ Bs A C := ⟨h.1.trans k.1, k.2.trans h.2⟩
theorem cell_new1 (w : World) (v : Value) (t : TypeId) : (w.alloc (.cells #[v] t)).cell? ⟨w.heap.size, 0, none⟩ = some v := by simp
theorem frozen_new1 (w : World) (v : Value) (t : TypeId) : (w.alloc (.cells #[v] t)).frozen? ⟨w.heap.size, 0, none⟩ = false := by simp
theorem cell_old {w : World} (o : Obj) (p : Addr) (h : p.block < w.heap.size) : (w.alloc o).cell? p = w.cell? p := ((Below.refl w.heap.size w).alloc (Nat.le_refl _) o).cell h
theorem frozen_old {w : World} (o : Obj) (p : Addr) (h : p.block < w.heap.size) : (w.alloc o).frozen? p = w.frozen? p := ((Below.refl w.heap.size w).alloc (Nat.le_refl _) o).frozen h
/-- The remainder of a signed number. -/
def redV (neg : Bool) (p v : Nat) : Nat := if neg then (0 + p - v % p) % p else v % p
set_option maxRecDepth 100000 in
set_option maxHeartbeats 2000000 in
theorem mred_any (p : Nat) (neg : Bool) (A : Option Addr) (n c : Nat) (xs : List Nat) (w : World) (hp0 : 0 < p) (hp : p < 2147483648) (ha : Lim w w.heap.size A n c xs) :
    Calls Tryd.prog 53 #[.int .u64 (p : Int), .agg #[.bool neg, .slice A n c]] w fun e W' => e = .returned (.int .u64 ((redV neg p (val xs) : Nat) : Int)) ∧ Below w.heap.size w W' := by
  refine (callsIn_wide (n := 5)).1 ?_
  refine callsIn_of_wp_marks Tryd.func53 rfl trivial ?_ rfl
  simp only [Tryd.ntmps53, List.size_toArray, List.length_cons, List.length_nil, Nat.reduceAdd, Nat.reduceSub, Array.replicate_succ, Array.replicate_zero, List.push_toArray, List.append_toArray, List.nil_append, List.cons_append]
  gi_wp2
  refine ⟨trivial, (callsIn_wide.2 (back_any _ _ _ _)).mono ?_⟩
  rintro e w1 ⟨rfl, rfl⟩
  gi_wp2
  obtain ⟨W0, hW0⟩ : ∃ W0, W0 = ((((w.alloc (.cells #[.int .u64 (p : Int)] 39)).alloc (.cells #[.bool neg, .slice A n c] 28)).alloc (.cells #[.int .u64 0] 39)).alloc (.cells #[.slice A n c] 26)) := ⟨_, rfl⟩
  rw [← hW0]
  have hB0 : Below w.heap.size w W0 := by rw [hW0]; exact ((((Below.refl _ w).alloc (Nat.le_refl _) _).alloc (by simp) _).alloc (by simp; omega) _).alloc (by simp; omega) _
  have hsz : W0.heap.size = w.heap.size + 4 := by rw [hW0]; simp
  have c0 : W0.cell? ⟨w.heap.size, 0, none⟩ = some (.int .u64 (p : Int)) := by
    rw [hW0]
    exact (cell_old _ _ (by simp; omega)).trans ((cell_old _ _ (by simp; omega)).trans ((cell_old _ _ (by simp)).trans (cell_new1 w _ _)))
  have c1 : W0.cell? ⟨w.heap.size + 1, 0, none⟩ = some (.bool neg) := by
    rw [hW0]
    have := (Slot2.new (w.alloc (.cells #[.int .u64 (p : Int)] 39)) (.bool neg) (.slice A n c) 28).1
    rw [World.size_alloc] at this
    exact (cell_old _ _ (by simp)).trans ((cell_old _ _ (by simp)).trans this)
  have c23 : W0.cell? ⟨w.heap.size + 1 + 1, 0, none⟩ = some (.int .u64 0) ∧ W0.frozen? ⟨w.heap.size + 1 + 1, 0, none⟩ = false := by
    rw [hW0]
    have h1 := cell_new1 ((w.alloc (.cells #[.int .u64 (p : Int)] 39)).alloc (.cells #[.bool neg, .slice A n c] 28)) (.int .u64 0) 39
    have h2 := frozen_new1 ((w.alloc (.cells #[.int .u64 (p : Int)] 39)).alloc (.cells #[.bool neg, .slice A n c] 28)) (.int .u64 0) 39
    rw [World.size_alloc, World.size_alloc] at h1 h2
    exact ⟨(cell_old _ _ (by simp)).trans h1, (frozen_old _ _ (by simp)).trans h2⟩
  obtain ⟨c2, f2⟩ := c23
  have c3 : W0.cell? ⟨w.heap.size + 1 + 1 + 1, 0, none⟩ = some (.slice A n c) := by
    rw [hW0]
    have h1 := cell_new1 (((w.alloc (.cells #[.int .u64 (p : Int)] 39)).alloc (.cells #[.bool neg, .slice A n c] 28)).alloc (.cells #[.int .u64 0] 39)) (.slice A n c) 26
    rw [World.size_alloc, World.size_alloc, World.size_alloc] at h1
    exact h1
  clear hW0
  have hseq := back_stops Fence.wide 4 trivial rfl (by decide) (w.heap.size + 1 + 1 + 1) w.heap.size A n c xs W0 (by omega) (by omega) c3 (ha.below hB0)
  refine wpIn_rangeFunc_ownF (F := Fence.wide) (n := 5) rfl (by decide) (gf := 97) (lb := #[.pointer (some ⟨w.heap.size + 1 + 1 + 1, 0, none⟩)]) rfl trivial (enters_of Tryd.func97 (by kernel_rfl) rfl) hseq KpB.trans
    (fun W l o o' hl ho h1 h2 => ⟨belowK_b (w := W0) (by omega) W l o o' hl ho h1 h2, World.cell?_of_block (World.putObj_heap_other (by show w.heap.size + 1 + 1 + 1 ≠ l; omega))⟩) (Below.refl _ _) (fun _ => rfl)
    (fun pre W => (W.cell? ⟨w.heap.size, 0, none⟩ = some (.int .u64 (p : Int)) ∧ W.cell? ⟨w.heap.size + 1, 0, none⟩ = some (.bool neg) ∧ W.cell? ⟨w.heap.size + 1 + 1, 0, none⟩ = some (.int .u64 ((redF p pre : Nat) : Int)) ∧ W.frozen? ⟨w.heap.size + 1 + 1, 0, none⟩ = false) ∧ Below w.heap.size w W)
    (fun _ _ _ => False)
    (OwnFrom.and (Own.from (fun s A B row hs hg hr => ⟨cell_kept hs.1 hg hr, cell_kept hs.2.1 hg hr, cell_kept hs.2.2.1 hg hr, (frozen_kept hs.2.2.1 hg hr).trans hs.2.2.2⟩) _) (ownFrom_below (Nat.le_refl _) (by omega)))
    (fun _ _ _ _ _ hs _ _ => hs)
    ⟨⟨c0, c1, c2, f2⟩, hB0⟩
    (fun x => { tmps := #[.int .u64 (p : Int), .agg #[.bool neg, .slice A n c], .pointer (some ⟨w.heap.size, 0, none⟩), .pointer (some ⟨w.heap.size + 1, 0, none⟩), .int .u64 0, .pointer (some ⟨w.heap.size + 1 + 1, 0, none⟩), undef, .int .u32 ((wr32 x.2 : Nat) : Int), .pointer (some ⟨w.heap.size + 1, 1, none⟩), .slice A n c, .func (.func 97) #[] #[.pointer (some ⟨w.heap.size + 1 + 1 + 1, 0, none⟩)], .int .i64 (x.1 : Int), .int .u32 ((wr32 x.2 : Nat) : Int), undef, undef, undef, undef, undef, undef, undef, undef, undef, undef, undef, undef, undef], defers := [] }) ?assign ?body ?done ?stop
  case assign =>
    intro l x W K hK
    gi_wp2
    exact hK
  case body =>
    rintro l pre x W ⟨⟨h0, h1, h2, h3⟩, hB⟩ _
    have hx := wr32_lt x.2
    have hr := redF_lt hp0 pre
    have hn := redF_snoc p pre x
    generalize redF p pre = r at *
    generalize wr32 x.2 = y at *
    have e1 : bits BinOp.or IntKind.u64 ((r : Int) * 4294967296) (y : Int) = ((y + 4294967296 * r : Nat) : Int) := or_limbs y r hx (by omega)
    have HN := Lib.hid hn
    have CP := Lib.hid (fun W => mrem_any (y + 4294967296 * r) p W hp0 (by omega))
    clear hn
    gi_wp2
    refine ⟨trivial, (CallsIn.inRound l (callsIn_wide.2 (CP.out _))).mono ?_⟩
    rintro e w' ⟨rfl, hd⟩
    have h2' := (hd.cell ⟨w.heap.size + 1 + 1, 0, none⟩).trans h2
    have h3' := (hd.frozen ⟨w.heap.size + 1 + 1, 0, none⟩).trans h3
    gi_wp2
    have hmod : (((y + 4294967296 * r) % p : Nat) : Int) = ((y : Int) + 4294967296 * r) % p := by simp
    refine ⟨hd.keeps.trans (KeepsOthers.setCell _ _ _), ⟨(hd.below _).setCell (p := ⟨w.heap.size + 1 + 1, 0, none⟩) (by show w.heap.size ≤ w.heap.size + 1 + 1; omega) _, ?_⟩, ⟨?_, ?_, ?_, ?_⟩, (hB.trans (hd.below _)).setCell (p := ⟨w.heap.size + 1 + 1, 0, none⟩) (by show w.heap.size ≤ w.heap.size + 1 + 1; omega) _⟩
    · rw [World.cell?_setCell_other _ _ _ _ (by simp), hd.cell]
    · rw [World.cell?_setCell_other _ _ _ _ (by simp), hd.cell, h0]
    · rw [World.cell?_setCell_other _ _ _ _ (by simp), hd.cell, h1]
    · rw [World.cell?_setCell_same' _ _ _ (by rw [h2']; rfl), HN.out, hmod]
    · rw [World.frozen?_setCell, h3']
  case done =>
    rintro D ys W hD rfl ⟨⟨h0, h1, h2, h3⟩, hB⟩ hK
    rw [redF_backs ha.lt ha.len n (Nat.le_refl _), Nat.sub_self, List.drop_zero] at h2
    have hr := Nat.mod_lt (val xs) hp0
    have hV : redV neg p (val xs) = if neg then (0 + p - val xs % p) % p else val xs % p := rfl
    generalize val xs % p = r at *
    cases neg
    · have HV := Lib.hid (show redV false p (val xs) = r from hV)
      clear hV
      gi_wp2
      refine ⟨by simp, .inl ⟨_, _, rfl, run_takeDeferred hK, ?_⟩⟩
      exact ⟨_, results_tmp rfl _ _ _, by rw [HV.out]; rfl, hB.trans (belowK_b (w := W0) (by omega) W D _ _ hD hK rfl rfl)⟩
    · have HV := Lib.hid (show redV true p (val xs) = (0 + p - r) % p from hV)
      have CP := Lib.hid (fun W => msub_any p 0 r W hp hp0 hr)
      clear hV
      gi_wp2
      refine ⟨trivial, (callsIn_wide.2 (CP.out _)).mono ?_⟩
      rintro e w' ⟨rfl, hd⟩
      have hK' := hd.keeps.same D _ hK rfl
      gi_wp2
      refine ⟨by simp, .inl ⟨_, _, rfl, run_takeDeferred hK', ?_⟩⟩
      exact ⟨_, results_tmp rfl _ _ _, by rw [HV.out]; simp, (hB.trans (hd.below _)).trans (belowK_b (w := W0) (by omega) w' D _ _ hD hK' rfl rfl)⟩
  case stop =>
    rintro D c pre W hD _ h _
    exact h.elim
end Go.Proofs.YtclmenpclkmfeaaDoor
namespace Go.Proofs.YtclmenpclkmfeaaDoor
open Go.RowKit
theorem lz_any (x : Nat) (w : World) (h : x < 4294967296) : Calls Tryd.prog 108 #[.int .u32 (x : Int)] w fun e w' => e = .returned (.int .i64 (32 - (Lib.bitLen x : Int))) ∧ w = w' := by
  have HL := len32_any (x : Int) w (by omega) (by omega)
  rw [Int.toNat_natCast] at HL
  have hb : Lib.bitLen x ≤ 1000 := by
    have h1 := bitLen_spec x (by omega)
    rcases Nat.eq_zero_or_pos x with h0 | h0
    · subst h0; decide
    · have h2 := (h1.2 h0).1
      rcases Nat.lt_or_ge 1000 (Lib.bitLen x) with h3 | h3
      · exfalso
        have : 2 ^ 32 ≤ 2 ^ (Lib.bitLen x - 1) := Nat.pow_le_pow_right (by omega) (by omega)
        omega
      · exact h3
  generalize Lib.bitLen x = B at *
  have HL' := Lib.hid HL
  clear HL
  go_enter Tryd.func108, Tryd.ntmps108
  go_wp2_with fail
  refine HL'.out.mono ?_
  rintro e w1 ⟨rfl, rfl⟩
  go_wp2
  go_ret
  exact ⟨rfl, rfl⟩
/-- A divisor, shifted so that its highest bit is set. -/
theorem norm_row {b s m : Nat} {R : List Nat} (hb : (digs b).length = m + 2) (hs : s = 32 - Lib.bitLen ((digs b).getD (m + 1) 0)) (hR : R.length = m + 3) (hL : Limbs R) (hv : val R = b * 2 ^ s) :
    s < 32 ∧ val (R.take (m + 2)) = b * 2 ^ s ∧ 2147483648 ≤ (R.take (m + 2)).getD (m + 1) 0 := by
  obtain ⟨e1, hne⟩ := digs_top hb
  have l1 := val_lt (limbs_take (limbs_digs b) (m + 1))
  rw [List.length_take, Nat.min_eq_left (by omega)] at l1
  have ht := getD_lt (limbs_digs b) (m + 1)
  have e2 := val_take_succ R (m + 2)
  rw [List.take_of_length_le (by omega)] at e2
  have e3 : val (R.take (m + 2)) = _ := val_take_succ R (m + 1)
  have l3 := val_lt (limbs_take hL (m + 1))
  rw [List.length_take, Nat.min_eq_left (by omega)] at l3
  have eg : (R.take (m + 2)).getD (m + 1) 0 = R.getD (m + 1) 0 := getD_take (by omega)
  rw [eg]
  generalize (digs b).getD (m + 1) 0 = t at *
  obtain ⟨p1, p2⟩ := bitLen_spec t (by omega)
  obtain ⟨p2, p3⟩ := p2 (by omega)
  have p4 : Lib.bitLen t ≤ 32 := by
    rcases Nat.lt_or_ge 32 (Lib.bitLen t) with h | h
    · exfalso
      have : 2 ^ 32 ≤ 2 ^ (Lib.bitLen t - 1) := Nat.pow_le_pow_right (by omega) (by omega)
      omega
    · exact h
  generalize Lib.bitLen t = L at *
  have hs32 : s < 32 := by omega
  have q1 : 2 ^ L * 2 ^ s = 4294967296 := by rw [← Nat.pow_add, show L + s = 32 by omega]
  have q2 : 2 ^ (L - 1) * 2 ^ s = 2147483648 := by rw [← Nat.pow_add, show L - 1 + s = 31 by omega]
  have eP : 4294967296 ^ (m + 2) = 4294967296 ^ (m + 1) * 4294967296 := Nat.pow_succ _ _
  generalize 4294967296 ^ (m + 1) = P at *
  generalize val ((digs b).take (m + 1)) = lo at *
  generalize 2 ^ s = S at *
  have u1 : b < P * 2 ^ L := by
    have : P * (t + 1) ≤ P * 2 ^ L := Nat.mul_le_mul_left _ p1
    rw [Nat.mul_add] at this
    omega
  have hS : 0 < S := by
    rcases Nat.eq_zero_or_pos S with h | h
    · subst h; omega
    · exact h
  have u2 : b * S < P * 4294967296 := by
    have : b * S < P * 2 ^ L * S := Nat.mul_lt_mul_of_pos_right u1 hS
    rwa [Nat.mul_assoc, q1] at this
  have u3 : P * 2147483648 ≤ b * S := by
    have h1 : P * 2 ^ (L - 1) ≤ b := by
      have : P * 2 ^ (L - 1) ≤ P * t := Nat.mul_le_mul_left _ p2
      omega
    have h2 := Nat.mul_le_mul_right S h1
    rwa [Nat.mul_assoc, q2] at h2
  have z : R.getD (m + 2) 0 = 0 := by
    rcases Nat.eq_zero_or_pos (R.getD (m + 2) 0) with h | h
    · exact h
    · exfalso
      have : P * 4294967296 * 1 ≤ P * 4294967296 * R.getD (m + 2) 0 := Nat.mul_le_mul_left _ h
      rw [eP] at e2
      omega
  rw [z, Nat.mul_zero, Nat.add_zero] at e2
  refine ⟨hs32, by omega, ?_⟩
  rcases Nat.lt_or_ge (R.getD (m + 1) 0) 2147483648 with h | h
  · exfalso
    have : P * (R.getD (m + 1) 0 + 1) ≤ P * 2147483648 := Nat.mul_le_mul_left _ h
    rw [Nat.mul_add] at this
    omega
  · exact h
/-- One step down of the long division, in numbers. -/
theorem long_step {vp P A D q r VQ X v : Nat} (hA : A = D * q + r) (hr : r < D) (hp : vp < P) (hv : v = vp + P * A) (hX : v + D * (P * 4294967296) * VQ = X) :
    (vp + P * r) + D * P * (q + 4294967296 * VQ) = X ∧ vp + P * r < P * D := by
  subst hA hv
  refine ⟨?_, ?_⟩
  · rw [← hX]
    simp only [Nat.mul_add, Nat.mul_assoc, Nat.mul_comm, Nat.mul_left_comm]
    omega
  · have : P * (r + 1) ≤ P * D := Nat.mul_le_mul_left _ hr
    rw [Nat.mul_add] at this
    omega
theorem split3 (R : List Nat) (j m : Nat) : R = R.take j ++ ((R.drop j).take m ++ R.drop (j + m)) := by
  rw [← List.drop_drop, List.take_append_drop, List.take_append_drop]
theorem take_mid (R : List Nat) (j m : Nat) (h : j ≤ R.length) : val (R.take (j + m)) = val (R.take j) + 4294967296 ^ j * val ((R.drop j).take m) := by
  have := val_append (R.take j) ((R.drop j).take m)
  rw [List.length_take, Nat.min_eq_left h] at this
  rw [← this, List.take_add]
/-- How far the long division is: j limbs of the quotient are still to come. -/
structure LongInv (X V N L k : Nat) (R Q : List Nat) (j : Nat) : Prop where
  lr : R.length = L + 1
  lq : Q.length = k + 1
  limr : Limbs R
  limq : Limbs Q
  sum : val (R.take (j + N)) + V * 4294967296 ^ j * val (Q.drop j) = X
  lt : val (R.take (j + N)) < 4294967296 ^ j * V
theorem LongInv.start {X V N L k : Nat} {R Q : List Nat} (hR : Limbs R) (hr : R.length = L + 1) (hQ : Limbs Q) (hq : Q.length = k + 1) (hL : L = N + k) (hv : val R = X) (hx : X < 4294967296 ^ (k + 1) * V) : LongInv X V N L k R Q (k + 1) := by
  have e : val (R.take (k + 1 + N)) = X := by rw [List.take_of_length_le (by omega), hv]
  have e2 : val (Q.drop (k + 1)) = 0 := by rw [List.drop_of_length_le (by omega)]; rfl
  exact ⟨hr, hq, hR, hQ, by rw [e, e2, Nat.mul_zero, Nat.add_zero], by rw [e]; exact hx⟩
theorem long_lt {a b s N k x lo : Nat} (ha : a < 4294967296 ^ (N + 1 + k)) (hb : b * 2 ^ s = lo + 4294967296 ^ N * x) (hx : 2147483648 ≤ x) (hs : s < 32) : a * 2 ^ s < 4294967296 ^ (k + 1) * (b * 2 ^ s) := by
  have h1 : 2 ^ s ≤ 2147483648 := (Nat.pow_le_pow_right (show 0 < 2 by omega) (show s ≤ 31 by omega) : 2 ^ s ≤ 2 ^ 31)
  have h2 : 0 < 2 ^ s := Nat.two_pow_pos _
  rw [hb]
  have e : 4294967296 ^ (N + 1 + k) = 4294967296 ^ (k + 1) * 4294967296 ^ N := by rw [← Nat.pow_add]; congr 1; omega
  rw [e] at ha
  generalize 4294967296 ^ (k + 1) = P at *
  generalize 4294967296 ^ N = T at *
  generalize 2 ^ s = S at *
  have h3 : a * S < P * T * S := Nat.mul_lt_mul_of_pos_right ha h2
  have h4 : P * T * S ≤ P * T * x := Nat.mul_le_mul_left _ (by omega)
  have h5 : P * (T * x) ≤ P * (lo + T * x) := Nat.mul_le_mul_left _ (by omega)
  rw [Nat.mul_assoc P T x] at h4
  omega
/-- What divideOnce needs, out of how far it is. -/
theorem LongInv.once {X V N L k : Nat} {R Q : List Nat} {j : Nat} (h : LongInv X V N L k R Q (j + 1)) (hj : j ≤ k) (hL : L = N + k) : (R.take j).length = j ∧ ((R.drop j).take N).length = N ∧ 0 < (R.drop (j + N)).length ∧
    val ((R.drop j).take N) + 4294967296 ^ N * (R.drop (j + N)).getD 0 0 < 4294967296 * V ∧ val (R.take (j + 1 + N)) = val (R.take j) + 4294967296 ^ j * (val ((R.drop j).take N) + 4294967296 ^ N * (R.drop (j + N)).getD 0 0) := by
  have hl := h.lr
  have e : val (R.take (j + 1 + N)) = val (R.take j) + 4294967296 ^ j * (val ((R.drop j).take N) + 4294967296 ^ N * (R.drop (j + N)).getD 0 0) := by
    rw [show j + 1 + N = j + N + 1 by omega, val_take_succ, take_mid _ _ _ (by omega), getD_drop, Nat.add_zero, Nat.pow_add, Nat.mul_add, Nat.mul_assoc, Nat.add_assoc]
  refine ⟨by rw [List.length_take]; omega, by rw [List.length_take, List.length_drop]; omega, by rw [List.length_drop]; omega, ?_, e⟩
  have hlt := h.lt
  rw [e, Nat.pow_succ, Nat.mul_assoc] at hlt
  exact Nat.lt_of_mul_lt_mul_left (Nat.lt_of_le_of_lt (Nat.le_add_left _ _) hlt)
theorem LongInv.step {X V N L k : Nat} {R Q ys : List Nat} {j A : Nat} (h : LongInv X V N L k R Q (j + 1)) (hj : j ≤ k) (hL : L = N + k) (hV : 0 < V) (hA : A = val ((R.drop j).take N) + 4294967296 ^ N * (R.drop (j + N)).getD 0 0) (hy : Limbs ys) (hl : ys.length = N) (hv : val ys = A % V) :
    LongInv X V N L k (R.take j ++ (ys ++ R.drop (j + N))) (Q.set j (A / V)) j := by
  obtain ⟨l1, l2, l3, hq, e⟩ := h.once hj hL
  rw [← hA] at hq e
  have hlr := h.lr
  have hql : A / V < 4294967296 := by rw [Nat.div_lt_iff_lt_mul hV]; exact hq
  have hp := val_lt (limbs_take h.limr j)
  rw [l1] at hp
  have hs := h.sum
  rw [e, Nat.pow_succ, ← Nat.mul_assoc V] at hs
  have st := long_step (A := A) (D := V) (q := A / V) (r := A % V) (VQ := val (Q.drop (j + 1))) (X := X) (v := val (R.take j) + 4294967296 ^ j * A) (Nat.div_add_mod A V).symm (Nat.mod_lt _ hV) hp rfl (by rw [← Nat.mul_assoc V]; exact hs)
  have et : val ((R.take j ++ (ys ++ R.drop (j + N))).take (j + N)) = val (R.take j) + 4294967296 ^ j * (A % V) := by
    rw [← List.append_assoc, List.take_append_of_le_length (by rw [List.length_append, l1, hl]; omega), List.take_of_length_le (by rw [List.length_append, l1, hl]; omega), val_append, l1, hv]
  refine ⟨by rw [List.length_append, List.length_append, l1, hl, List.length_drop]; omega, by rw [List.length_set]; exact h.lq, ?_, limbs_set h.limq _ hql, ?_, ?_⟩
  · intro x hx
    rcases List.mem_append.1 hx with h1 | h1
    · exact limbs_take h.limr j x h1
    · rcases List.mem_append.1 h1 with h2 | h2
      · exact hy x h2
      · exact limbs_drop h.limr _ x h2
  · rw [et, val_set_drop (by rw [h.lq]; omega)]; exact st.1
  · rw [et]; exact st.2
theorem LongInv.done {a b S N L k : Nat} {R Q : List Nat} (h : LongInv (a * S) (b * S) N L k R Q 0) (hS : 0 < S) (hb : 0 < b) : val Q = a / b ∧ val (R.take N) / S = a % b := by
  have h1 := h.sum
  have h2 := h.lt
  rw [Nat.pow_zero, Nat.mul_one, List.drop_zero, Nat.zero_add] at h1
  rw [Nat.pow_zero, Nat.one_mul, Nat.zero_add] at h2
  exact long_end hS hb h1 h2
theorem once_N (g h i N c c' : Nat) (pre xs tl ds dt : List Nat) (w : World) (hR : Row w g (pre ++ (xs ++ tl))) (hD : Row w h (ds ++ dt)) (hne : h ≠ g) (hi : pre.length = i) (hxn : xs.length = N) (hdn : ds.length = N) (hLx : Limbs xs) (hLd : Limbs ds) (hLt : Limbs tl) (ht : 0 < tl.length) (h2 : 2 ≤ N) (hn : N ≤ 900000) (hil : i ≤ 1000000)
    (hc : N + 1 ≤ c) (hcc : c ≤ 9223372036854775807) (hc' : N ≤ c') (hcc' : c' ≤ 9223372036854775807) (htop : 2147483648 ≤ ds.getD (N - 1) 0) (hq : val xs + 4294967296 ^ N * tl.getD 0 0 < 4294967296 * val ds) :
    Calls Tryd.prog 110 #[.slice (some ⟨g, i, none⟩) (N + 1) c, .slice (some ⟨h, 0, none⟩) N c'] w
      (OnceRes w g N ((val xs + 4294967296 ^ N * tl.getD 0 0) / val ds) ((val xs + 4294967296 ^ N * tl.getD 0 0) % val ds) pre tl) := by
  obtain ⟨m, rfl⟩ : ∃ m, N = m + 2 := ⟨N - 2, by omega⟩
  exact once_any g h i m c c' pre xs tl ds dt w hR hD hne hi hxn hdn hLx hLd hLt ht (by omega) hil hc hcc hc' hcc' htop hq
set_option maxHeartbeats 2000000 in
theorem long_any (A A' : Option Addr) (L N k c d a b : Nat) (w : World) (ha : Lim w w.heap.size A L c (digs a)) (hb : Lim w w.heap.size A' N d (digs b)) (hL : L = N + k) (h2 : 2 ≤ N) (hn : L ≤ 900000) :
    Calls Tryd.prog 100 #[.slice A L c, .slice A' N d] w (DivRes w (a / b) (a % b)) := by
  obtain ⟨m, hm⟩ : ∃ m, N = m + 2 := ⟨N - 2, by omega⟩
  have hb0 : 0 < b := by
    rcases Nat.eq_zero_or_pos b with h | h
    · exfalso; subst h; have := hb.len; rw [digs_zero] at this; simp at this; omega
    · exact h
  have hbm : (digs b).length = m + 2 := by rw [hb.len, hm]
  have htop := digs_top hbm
  obtain ⟨ad, rfl, _, x, hx, hxl, hcx⟩ := hb.at_ (k := N - 1) (by omega)
  have hx' : x = (digs b).getD (m + 1) 0 := by rw [hx.out, show N - 1 = m + 1 by omega]
  have hz := lz_any x w hxl
  obtain ⟨s, hs⟩ : ∃ s, s = 32 - Lib.bitLen x := ⟨_, rfl⟩
  obtain ⟨p1, p2⟩ := bitLen_spec x (by omega)
  have hx0 : 0 < x := by have := htop.2; rw [← hx'] at this; omega
  obtain ⟨p2, p3⟩ := p2 hx0
  have hle : Lib.bitLen x ≤ 32 := by
    rcases Nat.lt_or_ge 32 (Lib.bitLen x) with h | h
    · exfalso
      have : 2 ^ 32 ≤ 2 ^ (Lib.bitLen x - 1) := Nat.pow_le_pow_right (by omega) (by omega)
      omega
    · exact h
  have hs2 : (32 : Int) - (Lib.bitLen x : Int) = (s : Int) := by omega
  rw [hs2] at hz
  have hs32 : s < 32 := by omega
  have hnorm := fun R h1 h2 h3 => norm_row (R := R) (s := s) hbm (by rw [← hx']; exact hs) h1 h2 h3
  have HU1 := shiftUp_any A L c w.heap.size s (digs a) w ha (Nat.le_refl _) (by omega) hs32
  have HU2 := fun W (hW : Below w.heap.size w W) => shiftUp_any (some ad) N d w.heap.size s (digs b) W (hb.below hW) hW.size (by omega) hs32
  rw [val_digs] at HU1
  simp only [val_digs] at HU2
  have hal := lt_digs_len a
  rw [ha.len] at hal
  have HZ := Lib.hid hz
  have HN := Lib.hid hnorm
  have HU1' := Lib.hid HU1
  have HU2' := Lib.hid HU2
  have HAL := Lib.hid hal
  have HM := Lib.hid hm
  have HL := Lib.hid hL
  clear hz hnorm HU1 HU2 hs hs2 hle hx hx' htop ha hb hal hbm hm hL p1 p2 p3
  have hNL : N ≤ 900000 := by have := HL.out; omega
  have i1 : IntKind.i64.wrap ((N : Int) - 1) = (N : Int) - 1 := by rw [IntKind.wrap_i64]; omega
  go_enter Tryd.func100, Tryd.ntmps100
  go_wp2_with fail
  refine HZ.out.mono ?_
  rintro e w1 ⟨rfl, rfl⟩
  go_wp2_with fail
  refine HU1'.out.mono ?_
  rintro e w1 ⟨R, rfl, hR, hRL, hRl, hRv, hb1⟩
  go_wp2_with fail
  refine (HU2'.out _ hb1).mono ?_
  rintro e w2 ⟨D, rfl, hD, hDL, hDl, hDv, hb2⟩
  obtain ⟨_, n2, n3⟩ := HN.out D (by rw [hDl, HM.out]) hDL hDv
  rw [← HM.out] at n2 n3
  have hR2 := hR.below hb2 hR.lt
  have hgl := hR.lt
  have B2 := hb1.trans (hb2.mono hb1.size)
  have hmk : ∀ W : World, (Instr.makeSlice 26 (.int .i64 ((k : Int) + 1)) (.int .i64 ((k : Int) + 1))).run Tryd.prog W =
    .ok (.slice (some ⟨W.heap.size, 0, none⟩) (k + 1) (k + 1)) (W.alloc (.cells (madeCells #[.int .u32 0] (k + 1)) 69)) := fun W => make_u32 (k + 1) (by have := HL.out; omega) W
  have i2 : (L : Int) - (N : Int) = (k : Int) := by have := HL.out; omega
  have hkl : k ≤ 900000 := by have := HL.out; omega
  have HDV := Lib.hid hDv
  have HDl := Lib.hid hDl
  have HRV := Lib.hid hRv
  have HRl := Lib.hid hRl
  have N2 := Lib.hid n2
  clear n2 hDv hDl hRv hRl
  have hhl := hD.lt
  go_wp2
  obtain ⟨V, hV⟩ : ∃ V, V = b * 2 ^ s := ⟨_, rfl⟩
  obtain ⟨X, hX⟩ : ∃ X, X = a * 2 ^ s := ⟨_, rfl⟩
  have HV := Lib.hid hV
  have HX := Lib.hid hX
  clear hV hX
  go_loopw [11] (fun s11 wr => ∃ (j : Nat) (R Q : List Nat), j ≤ k + 1 ∧ s11 = .int .i64 ((j : Int) - 1) ∧ Row wr w.heap.size R ∧ Row wr w1.heap.size D ∧ Row wr w2.heap.size Q ∧ LongInv X V N L k R Q j ∧ Below w.heap.size w wr) (fun s11 _ => (intOf s11 + 1).toNat)
  case atStart =>
    refine ⟨k + 1, R, _, Nat.le_refl _, by go_num, hR2.alloc _, hD.alloc _, Row.made w2 (k + 1), .start hRL HRl.out (limbs_zeros _) (by simp) HL.out (by rw [HRV.out, HX.out]) ?_, B2.alloc (by omega) _⟩
    rw [HX.out, HV.out]
    have e := val_take_succ (D.take N) (m + 1)
    rw [List.take_of_length_le (by rw [List.length_take, HDl.out, HM.out]; omega), N2.out] at e
    have hal := HAL.out
    rw [HL.out, show N + k = m + 1 + 1 + k by have := HM.out; omega] at hal
    exact long_lt hal e n3 hs32
  case round =>
    obtain ⟨j, R, Q, hj, rfl, hRr, hDr, hQr, hI, BW⟩ := hrel
    rcases Nat.eq_zero_or_pos j with h0 | h0
    · subst h0
      have j1 : ((0 : Nat) : Int) - 1 = -1 := by omega
      rw [j1]
      have hI' := hI
      rw [HX.out, HV.out] at hI'
      have hv := hI'.done (Nat.two_pow_pos s) hb0
      have hlr := hI.lr
      have hLR := ((hRr.lim hI.limr (L + 1) (by omega) (by omega)).take N (by have := HL.out; omega))
      have HSD := shiftDown_any (some ⟨w.heap.size, 0, none⟩) N (L + 1) wr.heap.size s (R.take N) wr hLR (Nat.le_refl _) (by omega) hs32
      have HSD' := Lib.hid HSD
      have HVV := Lib.hid hv
      clear hv HSD hI' hlr
      go_wp2_with fail
      refine HSD'.out.mono ?_
      rintro e w3 ⟨zs, ⟨A3, n3', c3, rfl, hl3, hb3⟩, hz, hzl⟩
      have hQ3 := (hQr.below hb3 hQr.lt).len_lim hI.limq (k + 1) hI.lq (by omega)
      have HZ3 := Lib.hid hz
      clear hz hzl
      go_wp2
      go_ret2
      exact ⟨_, _, _, Q, A3, n3', c3, zs, rfl, hQ3, hl3, HVV.out.1, by rw [HZ3.out, HVV.out.2], by omega, BW.trans (hb3.mono BW.size)⟩
    · obtain ⟨j, rfl⟩ : ∃ i, j = i + 1 := ⟨j - 1, by omega⟩
      have j1 : ((j + 1 : Nat) : Int) - 1 = (j : Int) := by omega
      rw [j1]
      clear j1
      have hV0 : 0 < V := by rw [HV.out]; exact Nat.mul_pos hb0 (Nat.two_pow_pos _)
      obtain ⟨l1, l2, l3, hq, _⟩ := hI.once (by omega) HL.out
      have hlr := hI.lr
      have hRr' := hRr
      rw [split3 R j N] at hRr'
      have hDr' := hDr
      rw [← List.take_append_drop N D] at hDr'
      have hdn : (D.take N).length = N := by rw [List.length_take, HDl.out]; omega
      have hNV : val (D.take N) = V := by rw [N2.out, HV.out]
      have htop : 2147483648 ≤ (D.take N).getD (N - 1) 0 := by rw [show N - 1 = m + 1 by have := HM.out; omega]; exact n3
      have HO := once_N w.heap.size w1.heap.size j N (L + 1 - j) (N + 1) _ _ _ _ _ wr hRr' hDr' (by omega) l1 l2 hdn (limbs_take (limbs_drop hI.limr _) _) (limbs_take hDL _) (limbs_drop hI.limr _) l3 h2 hNL (by omega) (by have := HL.out; omega) (by omega) (by omega) (by omega) htop (by rw [hNV]; exact hq)
      rw [hNV] at HO
      obtain ⟨A0, hA0⟩ : ∃ A0, A0 = val ((R.drop j).take N) + 4294967296 ^ N * (R.drop (j + N)).getD 0 0 := ⟨_, rfl⟩
      rw [← hA0] at HO
      have STEP := fun ys h1 h2 h3 => hI.step (ys := ys) (by omega) HL.out hV0 hA0 h1 h2 h3
      have hlq := hI.lq
      have hcq := fun W (h : Row W w2.heap.size Q) => h.cell (k := j) (by rw [hlq]; omega)
      have HO' := Lib.hid HO
      have STEP' := Lib.hid STEP
      have HCQ := Lib.hid hcq
      clear HO STEP hcq hA0 hNV hdn htop hDr' hRr' l1 l2 l3 hlr hlq hq
      have jl : j + N + 1 - j = N + 1 := by omega
      have HJL := Lib.hid jl
      clear jl
      go_wp2_with fail
      rw [HJL.out]
      refine HO'.out.mono ?_
      rintro e w3 ⟨ys, rfl, hRy, hLy, hly, hvy, hg⟩
      have hD3 := hDr.grown hg (by omega)
      have hQ3 := hQr.grown hg (by omega)
      have hI2 := STEP'.out ys hLy hly hvy
      have c3 := HCQ.out _ hQ3
      have f3 := hQ3.frozen j
      have B3 : Below w.heap.size w w3 := BW.grown hg BW.size (fun _ hk => by cases hk; exact Nat.le_refl _)
      clear hly hvy
      go_wp2
      exact ⟨⟨j, _, _, by omega, by go_num, hRy.far (by simp; omega) _, hD3.far (by simp; omega) _, hQ3.set _ _, hI2, B3.setCell (by simp; omega) _⟩, by simp [intOf]⟩
end Go.Proofs.YtclmenpclkmfeaaDoor
namespace Go.Proofs.YtclmenpclkmfeaaDoor
open Go.RowKit
set_option maxHeartbeats 400000 in
theorem clone_own (A : Option Addr) (n c B : Nat) (xs : List Nat) (w : World) (ha : Lim w B A n c xs) (hB : B ≤ w.heap.size) (hn : n ≤ 1000000) (h0 : 0 < n) :
    Calls Tryd.prog 91 #[.slice A n c] w fun e w' => ∃ A' c', e = .returned (.slice A' n c') ∧ Own w' w.heap.size (.slice A' n c') n xs ∧ Below w.heap.size w w' := by
  obtain ⟨ad, rfl, _⟩ := ha.rd h0
  have qT : ∀ (w : World) (a : Option Addr) (n c n' c' : Nat), (binOp .eql 26 (.slice a n c) (.slice none n' c')).run Tryd.prog w = .ok (.bool a.isNone) w := fun w a n c n' c' => Lib.run_eql_slice_nil w 26 69 a n c n' c' Tryd.underlying26
  go_enter Tryd.func91, Tryd.ntmps91
  go_wp2_with (at_builtin; refine wpList_append_lim _ rfl (.tmp 5) (.tmp 6) rfl w.heap.size (.slice (some ⟨w.heap.size, 0, none⟩) 0 0) 0 [] rfl ?h1 ?h2 w.heap.size (some ad) n c xs rfl ?h3 ?h4 ?h5 ?h6)
  case h1 => exact Own.empty w w.heap.size (Nat.le_refl _)
  case h2 => exact fun x hx => by simp at hx
  case h3 => exact (ha.more hB).alloc (Nat.le_refl _) _
  case h4 => omega
  case h5 => simp
  case h6 =>
    intro A' c' w1 hl ho hg
    go_wp2
    go_ret
    refine ⟨A', c', ?_, ?_, ?_⟩
    · simp
    · simpa using ho
    · exact ((Below.refl w.heap.size w).alloc (Nat.le_refl _) _).grown hg (by simp) (fun k hk => by cases hk; exact Nat.le_refl _)
set_option maxHeartbeats 1000000 in
theorem divIn_own (base : Nat) (A : Option Addr) (n c d : Nat) (xs : List Nat) (w : World) (hO : Own w base (.slice A n c) n xs) (hL : Limbs xs) (hn : n ≤ 1000000) (hd : 0 < d) (hdl : d < 4294967296) :
    Calls Tryd.prog 99 #[.slice A n c, .int .u32 (d : Int)] w fun e w' => ∃ ys, e = .returned (.int .u32 ((val xs % d : Nat) : Int)) ∧ Own w' base (.slice A n c) n ys ∧ Limbs ys ∧ val ys = val xs / d ∧ Below base w w' := by
  have b1 : ((d : Int) == 0) = false := by simp; omega
  have HL := Lib.hid hO.len
  go_enter Tryd.func99, Tryd.ntmps99
  go_wp2
  go_loopw [5, 6] (fun re i wr => ∃ (k : Int) (r : Nat) (ys : List Nat), -1 ≤ k ∧ k < n ∧ i = .int .i64 k ∧ re = .int .u64 r ∧ r < d ∧ Own wr base (.slice A n c) n ys ∧ Limbs ys ∧ Hid (ys.take (k + 1).toNat = xs.take (k + 1).toNat) ∧ Hid (val (xs.drop (k + 1).toNat) = val (ys.drop (k + 1).toNat) * d + r) ∧ Below base w wr) (fun _ i _ => (intOf i + 1).toNat)
  case atStart =>
    refine ⟨n - 1, 0, xs, by omega, by omega, rfl, rfl, hd, hO, hL, rfl, ?_, Below.refl _ _⟩
    rw [Hid, show ((n : Int) - 1 + 1).toNat = n by omega, List.drop_of_length_le (by rw [HL.out]; exact Nat.le_refl _)]; simp [val]
  case round =>
    obtain ⟨k, r, ys, hk, hkn, rfl, rfl, hr, hRy, hLy, htk, hv, hgb⟩ := hrel
    have hly := Lib.hid hRy.len
    by_cases h0 : 0 ≤ k
    · obtain ⟨k, rfl⟩ := Int.eq_ofNat_of_zero_le h0
      obtain ⟨g, rfl, hg0, hg1, hnc, hc, hf, hset⟩ := hRy.at_ (k := k) (by omega)
      obtain ⟨x, hx⟩ : ∃ x, x = ys.getD k 0 := ⟨_, rfl⟩
      have hxl : x < 4294967296 := by rw [hx]; exact getD_lt hLy k
      rw [← hx] at hc
      have HX := Lib.hid hx
      have HSET := Lib.hid hset
      clear hx hset
      go_wp2
      have e1 : bits BinOp.or IntKind.u64 ((r : Int) * 4294967296) (x : Int) = ((x + 4294967296 * r : Nat) : Int) := or_limbs x r hxl (by omega)
      rw [e1]
      obtain ⟨t, ht⟩ : ∃ t, t = x + 4294967296 * r := ⟨_, rfl⟩
      rw [← ht]
      have e2 : ((t : Int)).tmod (d : Int) = ((t % d : Nat) : Int) := rfl
      have e3 : ((t : Int)).tdiv (d : Int) = ((t / d : Nat) : Int) := rfl
      have hv1 : t / d < 4294967296 := by
        rw [Nat.div_lt_iff_lt_mul hd, ht]
        have : 4294967296 * (r + 1) ≤ 4294967296 * d := Nat.mul_le_mul_left _ hr
        omega
      have hm := Nat.mod_lt t hd
      have htd := Nat.div_add_mod t d
      rw [e2, e3]
      generalize t / d = v at *
      generalize t % d = r' at *
      have e4 : IntKind.u64.wrap (v : Int) % 4294967296 = (v : Int) := by rw [IntKind.wrap_u64]; omega
      rw [e4]
      have htk' := htk.out
      have hv' := hv.out
      rw [show ((k : Int) + 1).toNat = k + 1 by omega] at htk' hv'
      have hxx : x = xs.getD k 0 := by
        rw [HX.out, ← getD_take (xs := ys) (k := k + 1) (Nat.lt_succ_self k), htk', getD_take (Nat.lt_succ_self k)]
      refine ⟨⟨(k : Int) - 1, r', ys.set k v, by omega, by omega, rfl, rfl, hm, HSET.out _, limbs_set hLy _ hv1, ?_, ?_, hgb.setCell hg0 _⟩, by show ((k : Int) - 1 + 1).toNat < ((k : Int) + 1).toNat; omega⟩
      · rw [Hid, show ((k : Int) - 1 + 1).toNat = k by omega, List.take_set_of_le (Nat.le_refl k)]
        have := congrArg (List.take k) htk'
        rw [List.take_take, List.take_take, Nat.min_eq_left (by omega)] at this
        exact this
      · rw [Hid, show ((k : Int) - 1 + 1).toNat = k by omega, val_set_drop (by rw [hly.out]; omega), val_drop_cons (xs := xs) (k := k) (by rw [HL.out]; omega), hv', ← hxx, Nat.add_mul, Nat.mul_add]
        rw [Nat.mul_comm d v] at htd
        rw [← Nat.mul_assoc]
        omega
    · obtain rfl : k = -1 := by omega
      go_wp2
      go_ret
      have hv' := hv.out
      rw [show ((-1 : Int) + 1).toNat = 0 from rfl, List.drop_zero, List.drop_zero] at hv'
      refine ⟨retI ?_, ys, hRy, hLy, ?_, hgb⟩
      · rw [← Int.natCast_emod, hv', Nat.mul_comm, Nat.mul_add_mod, Nat.mod_eq_of_lt hr]
      · rw [hv', Nat.mul_comm, Nat.mul_add_div hd, Nat.div_eq_of_lt hr, Nat.add_zero]
set_option maxHeartbeats 1000000 in
theorem div_one (A A' : Option Addr) (n c d a b : Nat) (w : World) (ha : Lim w w.heap.size A n c (digs a)) (hb : Lim w w.heap.size A' 1 d (digs b)) (hn : n ≤ 900000) (h2 : 2 < n) (hab : b ≤ a) :
    Calls Tryd.prog 79 #[.slice A n c, .slice A' 1 d] w (DivRes w (a / b) (a % b)) := by
  have HO := order_any A A' n c 1 d w.heap.size w.heap.size _ _ w ha hb
  rw [ordV_digs] at HO
  have ho : ¬ cmpN (a : Int) (b : Int) < 0 := by unfold cmpN; split <;> (try split) <;> omega
  generalize cmpN (a : Int) (b : Int) = t at *
  have HW := fun W (hd : Drawn w W) => words_no A A' n c 1 d w.heap.size w.heap.size (digs a) (digs b) W (ha.drawn hd) (hb.drawn hd) (by omega)
  have HC := fun W (hd : Drawn w W) => clone_own A n c w.heap.size (digs a) W (ha.drawn hd) (by rw [hd.size]; exact Nat.le_refl _) (by omega) (by omega)
  obtain ⟨ad, rfl, _, x, hx, hxl, hcx⟩ := hb.at_ (k := 0) (by omega)
  have hbx : x = b := by
    have h1 := val_digs b
    have h2 := val_take_succ (digs b) 0
    rw [List.take_of_length_le (by rw [hb.len]; exact Nat.le_refl _), h1, ← hx.out] at h2
    simp [val] at h2
    exact h2.symm
  subst hbx
  have hx0 : 0 < x := by
    rcases Nat.eq_zero_or_pos x with h | h
    · exfalso; subst h; have := hb.len; rw [digs_zero] at this; simp at this
    · exact h
  have HI := fun W A1 c1 base (h : Own W base (.slice A1 n c1) n (digs a)) => divIn_own base A1 n c1 x (digs a) W h (limbs_digs a) (by omega) hx0 hxl
  simp only [val_digs] at HI
  have hlt := Nat.mod_lt a hx0
  have HO' := Lib.hid HO
  have HW' := Lib.hid HW
  have HC' := Lib.hid HC
  have HI' := Lib.hid HI
  have hcell : Hid (∀ W, Below w.heap.size w W → W.cell? ad = some (.int .u32 (x : Int))) := fun W hW => by
    obtain ⟨ad', e, hbk, y, hy, _, hcy⟩ := (hb.below hW).at_ (k := 0) (by omega)
    cases e
    rw [hy.out, ← hx.out] at hcy
    rwa [show ad.add 0 = ad by unfold Addr.add; simp] at hcy
  clear HO HW HC HI ha hb hx hcx
  generalize a / x = Q at *
  generalize a % x = R at *
  go_enter Tryd.func79, Tryd.ntmps79
  go_wp2_with fail
  refine HO'.out.mono ?_
  rintro e w1 ⟨rfl, hd1⟩
  go_wp2_with fail
  refine (HW'.out _ hd1).mono ?_
  rintro e w2 ⟨⟨x1, y1, rfl⟩, hd2⟩
  have hd := hd1.trans hd2
  go_wp2_with fail
  refine (HC'.out _ hd).mono ?_
  rintro e w3 ⟨A3, c3, rfl, ho3, hb3⟩
  have B3 := (hd.below w.heap.size).trans (hb3.mono (by rw [hd.size]; exact Nat.le_refl _))
  have hcx := hcell.out _ B3
  go_wp2_with fail
  refine (HI'.out _ _ _ _ ho3).mono ?_
  rintro e w4 ⟨ys, rfl, ho4, hL4, hv4, hb4⟩
  have HV4 := Lib.hid hv4
  clear hv4
  obtain ⟨A5, c5, e5, hl5⟩ := ho4.form hL4
  cases e5
  have B4 := B3.trans (hb4.mono (by rw [hd.size]; exact Nat.le_refl _))
  go_wp2
  go_ret2
  have hr := (row_new w4 [R] _ rfl).len_lim (by intro z hz; simp at hz; omega) 1 rfl (by omega)
  exact ⟨_, _, _, ys, _, _, _, [R], rfl, (hl5.alloc (Nat.le_refl _) _).more (by simp), hr, HV4.out, by simp [val], by omega, B4.alloc (by exact B4.size) _⟩
set_option maxHeartbeats 1000000 in
theorem div_more (A A' : Option Addr) (n c m d a b : Nat) (w : World) (ha : Lim w w.heap.size A n c (digs a)) (hb : Lim w w.heap.size A' m d (digs b)) (hn : n ≤ 900000) (h2 : 2 < n) (hm : 2 ≤ m) (hab : b ≤ a) :
    Calls Tryd.prog 79 #[.slice A n c, .slice A' m d] w (DivRes w (a / b) (a % b)) := by
  have HO := order_any A A' n c m d w.heap.size w.heap.size _ _ w ha hb
  rw [ordV_digs] at HO
  have ho : ¬ cmpN (a : Int) (b : Int) < 0 := by unfold cmpN; split <;> (try split) <;> omega
  generalize cmpN (a : Int) (b : Int) = t at *
  have hmn : m ≤ n := by rw [← ha.len, ← hb.len]; exact digs_len_mono hab
  have HW := fun W (hd : Drawn w W) => words_no A A' n c m d w.heap.size w.heap.size (digs a) (digs b) W (ha.drawn hd) (hb.drawn hd) (by omega)
  have HD := fun W (hd : Drawn w W) => long_any A A' n m (n - m) c d a b W ((ha.drawn hd).more (by rw [hd.size]; exact Nat.le_refl _)) ((hb.drawn hd).more (by rw [hd.size]; exact Nat.le_refl _)) (by omega) hm hn
  generalize a / b = Q at *
  generalize a % b = R at *
  have b1 : ((m : Int) == 1) = false := by simp; omega
  have HO' := Lib.hid HO
  have HW' := Lib.hid HW
  have HD' := Lib.hid HD
  clear HO HW HD ha hb
  go_enter Tryd.func79, Tryd.ntmps79
  go_wp2_with fail
  refine HO'.out.mono ?_
  rintro e w1 ⟨rfl, hd1⟩
  go_wp2_with fail
  refine (HW'.out _ hd1).mono ?_
  rintro e w2 ⟨⟨x1, y1, rfl⟩, hd2⟩
  have hd := hd1.trans hd2
  go_wp2_with fail
  refine (HD'.out _ hd).mono ?_
  rintro e w3 ⟨A1, n1, c1, xs, A2, n2, c2, ys, rfl, h1, h2, h3, h4, h5, h6⟩
  go_wp2
  go_ret2
  exact ⟨A1, n1, c1, xs, A2, n2, c2, ys, rfl, h1, h2, h3, h4, h5, (hd.below w.heap.size).trans (h6.mono (by rw [hd.size]; exact Nat.le_refl _))⟩
theorem divOk_all (L : Nat) (hL : L ≤ 900000) : DivOk L := by
  intro A A' n c m d a b W ha hb hn hm hb0
  by_cases h2 : n ≤ 2 ∧ m ≤ 2
  · exact divW_any A A' n c m d a b W ha hb h2.1 h2.2 hb0
  rcases Nat.lt_or_ge a b with h | h
  · exact divW_lt A A' n c m d a b W ha hb (by omega) h
  · have hmn : m ≤ n := by rw [← ha.len, ← hb.len]; exact digs_len_mono h
    have hm0 : 0 < m := by rw [← hb.len]; exact digs_len_pos hb0
    rcases Nat.lt_or_ge m 2 with h1 | h1
    · obtain rfl : m = 1 := by omega
      exact div_one A A' n c d a b W ha hb (by omega) (by omega) h
    · exact div_more A A' n c m d a b W ha hb (by omega) (by omega) h1 h
end Go.Proofs.YtclmenpclkmfeaaDoor
namespace Go.Proofs.YtclmenpclkmfeaaDoor
open Go.RowKit
set_option maxHeartbeats 1000000 in
theorem root_neg (A : Option Addr) (n c : Nat) (a : Int) (w : World) (ha : IsInt w true A n c a) :
    Calls Tryd.prog 58 #[.agg #[.bool true, .slice A n c]] w (RetIE w 0 1) := by
  have T1 := Lib.hid (fun W hW => tidy_z true A n c a w W ha hW)
  clear ha
  obtain ⟨HB, P0, R0⟩ := frame11 w (.bool true) (.slice A n c)
  go_enter Tryd.func58, Tryd.ntmps58
  go_wp2_with fail
  refine (T1.out _ HB).mono ?_
  rintro e w1 ⟨rfl, hb1⟩
  have ⟨p0, p1, p2, p3, p4⟩ := P0.after hb1
  have ⟨r0, r1, r2, r3, r4⟩ := (R0.after hb1).far2 (g' := w.heap.size) (by omega) (.bool true) (.slice A n n)
  have B1 := ((HB.trans (hb1.mono HB.size)).setCell (p := ⟨w.heap.size, 0, none⟩) (by simp) (.bool true)).setCell (p := ⟨w.heap.size, 1, none⟩) (by simp) (.slice A n n)
  go_wp2
  exact bodyPost_ret (v := .tuple #[.agg #[.bool false, .slice none 0 0], .int .i64 1]) (by simp [results, Tryd.results58, go_sem, r0, r1]) rfl
    ⟨_, _, _, _, rfl, isInt_zero _ (by omega), (B1.setCell (by simp) _).setCell (by simp) _⟩
set_option maxHeartbeats 2000000 in
theorem root_of (L : Nat) (HD : DivOk L) (hL : L ≤ 999999) (A : Option Addr) (n c v : Nat) (w : World) (ha : IsInt w false A n c (v : Int)) (hn : n + 1 ≤ L) :
    Calls Tryd.prog 58 #[.agg #[.bool false, .slice A n c]] w fun e w' => ∃ r : Nat, RetIE w (r : Int) 0 e w' ∧ r * r ≤ v ∧ v < (r + 1) * (r + 1) := by
  have T1 := Lib.hid (fun W hW => tidy_z false A n c (v : Int) w W ha hW)
  have hlen := ha.lim.len
  rw [Int.natAbs_natCast] at hlen
  obtain ⟨HB, P0, R0⟩ := frame11 w (.bool false) (.slice A n c)
  rcases Nat.eq_zero_or_pos n with h0 | h0
  · subst h0
    have hv : v = 0 := by rw [digs_len_zero] at hlen; exact hlen
    subst hv
    go_enter Tryd.func58, Tryd.ntmps58
    go_wp2_with fail
    refine (T1.out _ HB).mono ?_
    rintro e w1 ⟨rfl, hb1⟩
    have ⟨p0, p1, p2, p3, p4⟩ := P0.after hb1
    have ⟨r0, r1, r2, r3, r4⟩ := (R0.after hb1).far2 (g' := w.heap.size) (by omega) (.bool false) (.slice A 0 0)
    have B1 := ((HB.trans (hb1.mono HB.size)).setCell (p := ⟨w.heap.size, 0, none⟩) (by simp) (.bool false)).setCell (p := ⟨w.heap.size, 1, none⟩) (by simp) (.slice A 0 0)
    go_wp2
    exact bodyPost_ret (v := .tuple #[.agg #[.bool false, .slice none 0 0], .int .i64 0]) (by simp [results, Tryd.results58, go_sem, r0, r1]) rfl
      ⟨0, ⟨_, _, _, _, rfl, isInt_zero _ (by omega), (B1.setCell (by simp) _).setCell (by simp) _⟩, by omega, by omega⟩
  · have hv0 : 0 < v := by
      rcases Nat.eq_zero_or_pos v with e | e
      · subst e; rw [digs_zero] at hlen; simp at hlen; omega
      · exact e
    have b1 : ((n : Int) == 0) = false := by simp; omega
    have HV0 := Lib.hid hv0
    have HD' := Lib.hid HD
    have HA := Lib.hid ha
    have HLEN := Lib.hid hlen
    clear hv0 HD ha hlen
    go_enter Tryd.func58, Tryd.ntmps58
    go_wp2_with fail
    refine (T1.out _ HB).mono ?_
    rintro e w1 ⟨rfl, hb1⟩
    have ⟨p0, p1, p2, p3, p4⟩ := P0.after hb1
    have P1 := (P0.after hb1).set2 (.bool false) (.slice A n n)
    have R1 := (R0.after hb1).far2 (g' := w.heap.size) (by omega) (.bool false) (.slice A n n)
    have B1 := ((HB.trans (hb1.mono HB.size)).setCell (p := ⟨w.heap.size, 0, none⟩) (by simp) (.bool false)).setCell (p := ⟨w.heap.size, 1, none⟩) (by simp) (.slice A n n)
    have HA1 : IsInt ((w1.setCell ⟨w.heap.size, 0, none⟩ (.bool false)).setCell ⟨w.heap.size, 1, none⟩ (.slice A n n)) false A n n (v : Int) := ⟨HA.out.sign, (HA.out.lim.tight.below B1).more B1.size⟩
    have HBit := Lib.hid (bits_any false A n n (v : Int) _ HA1 (by omega))
    clear HA1
    go_wp2_with fail
    refine HBit.out.mono ?_
    rintro e w2 ⟨bb, ⟨rfl, hbb⟩, hb2⟩
    have hbl : bb ≤ 32 * n := by
      rcases Nat.lt_or_ge (32 * n) bb with h | h
      · have h1 := (hbb.2.2 (by rw [Int.natAbs_natCast]; exact HV0.out)).1
        rw [Int.natAbs_natCast] at h1
        have h2 := lt_digs_len v
        rw [HLEN.out] at h2
        have h3 : (2 : Nat) ^ (32 * n) ≤ 2 ^ (bb - 1) := Nat.pow_le_pow_right (by omega) (by omega)
        rw [Nat.pow_mul] at h3
        have h4 : (2 ^ 32 : Nat) = 4294967296 := by decide
        rw [h4] at h3
        omega
      · exact h
    obtain ⟨h, hh⟩ : ∃ h, h = (bb + 1) / 2 := ⟨_, rfl⟩
    have hh1 : h ≤ 16 * n := by omega
    have hvh : v < (2 ^ h + 1) * (2 ^ h + 1) := by
      have h1 := hbb.1
      rw [Int.natAbs_natCast] at h1
      have h2 : (2 : Nat) ^ bb ≤ 2 ^ (h + h) := Nat.pow_le_pow_right (by omega) (by omega)
      rw [Nat.pow_add] at h2
      have h3 : 2 ^ h * 2 ^ h ≤ (2 ^ h + 1) * (2 ^ h + 1) := Nat.mul_le_mul (by omega) (by omega)
      omega
    have HVH := Lib.hid hvh
    have e1 : ((bb : Int) + 1) / 2 = (h : Int) := by omega
    clear hh hbb hvh
    have P2 := P1.after hb2
    have R2 := R1.after hb2
    have B2 := B1.trans (hb2.mono B1.size)
    go_wp2_with fail
    refine (pow2_any h _ (by omega)).mono ?_
    rintro e w3 ⟨zs, ⟨A3, n3, c3, rfl, hl3, hb3⟩, hv3, hn3⟩
    have P3 := P2.after hb3
    have R3 := R2.after hb3
    have B3 := B2.trans (hb3.mono B2.size)
    have hzs : zs = digs (2 ^ h) := by
      rw [← hv3]
      apply eq_digs hl3.lt
      rw [hv3, hn3]
      apply digs_len_lt
      have h4 : (4294967296 : Nat) ^ (h / 32) = 2 ^ (32 * (h / 32)) := by rw [Nat.pow_mul]
      rw [h4]
      exact Nat.pow_le_pow_right (by omega) (by omega)
    have hn3' : n3 ≤ n + 1 := by rw [← hl3.len, hn3]; omega
    rw [hzs] at hl3
    clear hv3 hn3 hzs
    go_wp2
    go_loopg [4] (2 ^ h) (fun g s wr => ∃ (A4 : Option Addr) (n4 c4 : Nat), s = .slice A4 n4 c4 ∧ Lim wr wr.heap.size A4 n4 c4 (digs g) ∧ 0 < g ∧ Hid (v < (g + 1) * (g + 1)) ∧ n4 ≤ n + 1 ∧ Slot2 wr w.heap.size (.bool false) (.slice A n n) ∧ Slot2 wr (w.heap.size + 1) (.bool false) (.slice none 0 0) ∧ Below w.heap.size w wr)
    case atStart => exact ⟨A3, n3, c3, rfl, hl3, Nat.two_pow_pos h, HVH.out, hn3', P3, R3, B3⟩
    case round =>
      obtain ⟨A4, n4, c4, rfl, hl4, hg0, hvg, hn4, P4, R4, B4⟩ := hrel
      have ⟨p0, p1, p2, p3, p4⟩ := P4
      have HAr : Lim wr wr.heap.size A n n (digs v) := (HA.out.lim.tight.below B4).more B4.size
      go_wp2_with fail
      refine (HD'.out A A4 n n n4 c4 v gk wr HAr hl4 (by omega) (by omega) hg0).mono ?_
      rintro e w5 ⟨A5, n5, c5, us, A6, n6, c6, vs, rfl, hl5, hl6, hv5, hv6, hn5, hb5⟩
      have B5 := B4.trans (hb5.mono B4.size)
      have P5 := P4.after hb5
      have R5 := R4.after hb5
      have h4' := (hl4.below hb5).more hb5.size
      obtain ⟨q, hq⟩ : ∃ q, q = v / gk := ⟨_, rfl⟩
      rw [← hq] at hv5
      have hqv : v < gk * (q + 1) := by rw [hq, Nat.mul_comm]; exact Nat.lt_mul_of_div_lt (Nat.lt_succ_self _) hg0
      have HQV := Lib.hid hqv
      have HQ := Lib.hid hq
      obtain ⟨k5, hk5⟩ : ∃ k5, k5 = (digs q).length := ⟨_, rfl⟩
      have HT5 := Lib.hid (trim_val A5 n5 c5 _ q k5 us w5 hl5 hv5 hk5)
      have hl5' := hl5.trimv hv5 hk5
      have hk5n : k5 ≤ n := by rw [hk5, ← HLEN.out, hq]; exact digs_len_mono (Nat.div_le_self v gk)
      clear hv5 hv6 hk5 hq hqv HAr hl6 p0 p1 p2 p3 p4
      go_wp2_with fail
      refine HT5.out.mono ?_
      rintro e w6 ⟨rfl, rfl⟩
      go_wp2_with fail
      refine (sum_any A4 A5 n4 c4 k5 k5 _ _ (digs gk) (digs q) _ h4' hl5' (Nat.le_refl _) (Nat.le_refl _) (by omega) (by omega)).mono ?_
      rintro e w7 ⟨ts, ⟨A7, n7, c7, rfl, hl7, hb7⟩, hv7, hn7⟩
      rw [val_digs, val_digs] at hv7
      have B7 := B5.trans (hb7.mono B5.size)
      have P7 := P5.after hb7
      have R7 := R5.after hb7
      have h4'' := (h4'.below hb7).more hb7.size
      have hn7' : n7 ≤ n + 2 := by rw [← hl7.len, hn7]; omega
      obtain ⟨k7, hk7⟩ : ∃ k7, k7 = (digs (gk + q)).length := ⟨_, rfl⟩
      have HT7 := Lib.hid (trim_val A7 n7 c7 _ (gk + q) k7 ts w7 hl7 hv7 hk7)
      have hl7' := hl7.trimv hv7 hk7
      have hk7n : k7 ≤ n7 := by have h1 := digs_len_val hl7.lt; rw [hv7, ← hk7, hl7.len] at h1; exact h1
      clear hv7 hk7 hn7
      go_wp2_with fail
      refine HT7.out.mono ?_
      rintro e w8 ⟨rfl, rfl⟩
      go_wp2_with fail
      refine (shiftDown_any A7 k7 k7 _ 1 (digs (gk + q)) _ hl7' (Nat.le_refl _) (by omega) (by omega)).mono ?_
      rintro e w9 ⟨rs, ⟨A9, n9, c9, rfl, hl9, hb9⟩, hv9, hn9⟩
      rw [val_digs, Nat.pow_one] at hv9
      have B9 := B7.trans (hb9.mono B7.size)
      have P9 := P7.after hb9
      have R9 := R7.after hb9
      have h49 := (h4''.below hb9).more hb9.size
      obtain ⟨m, hm⟩ : ∃ m, m = (gk + q) / 2 := ⟨_, rfl⟩
      rw [← hm] at hv9
      obtain ⟨k9, hk9⟩ : ∃ k9, k9 = (digs m).length := ⟨_, rfl⟩
      have HT9 := Lib.hid (trim_val A9 n9 c9 _ m k9 rs w9 hl9 hv9 hk9)
      have hl9' := hl9.trimv hv9 hk9
      have HM := Lib.hid hm
      have HK9 := Lib.hid hk9
      clear hv9 hk9 hn9 hm
      go_wp2_with fail
      refine HT9.out.mono ?_
      rintro e w10 ⟨rfl, rfl⟩
      have HO := order_any A9 A4 k9 k9 n4 c4 _ _ (digs m) (digs gk) w9 hl9' h49
      rw [ordV_digs] at HO
      have HO' := Lib.hid HO
      clear HO
      by_cases hmg : gk ≤ m
      · have ho : (0 : Int) ≤ cmpN (m : Int) (gk : Int) := by unfold cmpN; split <;> (try split) <;> omega
        generalize cmpN (m : Int) (gk : Int) = t at *
        go_wp2_with fail
        refine HO'.out.mono ?_
        rintro e w11 ⟨rfl, hd11⟩
        have h411 := (h49.drawn hd11).more (B' := w11.heap.size) (by rw [hd11.size]; exact Nat.le_refl _)
        have B11 := B9.trans (hd11.below _)
        have R11 := R9.after (hd11.below _)
        have hfin : gk * gk ≤ v := by
          have h1 : gk ≤ q := by have := HM.out; omega
          rw [HQ.out] at h1
          have h2 := Nat.div_mul_le_self v gk
          exact Nat.le_trans (Nat.mul_le_mul_right gk h1) h2
        have HF := Lib.hid hfin
        clear hfin
        go_wp2_with fail
        refine (build_val false A4 n4 c4 gk (gk : Int) (digs gk) _ h411 (val_digs gk) rfl).mono ?_
        rintro e w12 ⟨g12, A12, n12, c12, rfl, hi12, hb12⟩
        have ⟨r0, r1, r2, r3, r4⟩ := R11.after hb12
        go_wp2
        exact bodyPost_ret (v := .tuple #[.agg #[.bool g12, .slice A12 n12 c12], .int .i64 0]) (by simp [results, Tryd.results58, go_sem, r0, r1]) rfl
          ⟨gk, ⟨_, _, _, _, rfl, hi12.stored r0 r1 rfl rfl _ _, ((B11.trans (hb12.mono B11.size)).setCell (by simp) _).setCell (by simp) _⟩, HF.out, hvg.out⟩
      · have ho : cmpN (m : Int) (gk : Int) < 0 := by unfold cmpN; rw [if_pos (by omega)]; omega
        generalize cmpN (m : Int) (gk : Int) = t at *
        go_wp2_with fail
        refine HO'.out.mono ?_
        rintro e w11 ⟨rfl, hd11⟩
        have h911 := (hl9'.drawn hd11).more (B' := w11.heap.size) (by rw [hd11.size]; exact Nat.le_refl _)
        have B11 := B9.trans (hd11.below _)
        have R11 := R9.after (hd11.below _)
        have P11 := P9.after (hd11.below _)
        have hnew : v < (m + 1) * (m + 1) := by rw [HM.out]; exact newton_step HQV.out
        have hm0 : 0 < m := by
          have h1 := HM.out
          rcases Nat.lt_or_ge gk 2 with h2 | h2
          · have h3 : gk = 1 := by omega
            have h4 : q = v := by rw [HQ.out, h3, Nat.div_one]
            have := HV0.out
            omega
          · omega
        have hk9n : k9 ≤ n + 1 := by
          rw [HK9.out]
          refine Nat.le_trans (digs_len_mono (show m ≤ gk by omega)) ?_
          rw [hl4.len]; exact hn4
        have HN := Lib.hid hnew
        clear hnew
        go_wp2
        go_roundg m
        case measure => omega
        case rel => exact ⟨A9, k9, k9, rfl, h911, hm0, HN.out, hk9n, P11, R11, B11⟩
end Go.Proofs.YtclmenpclkmfeaaDoor
