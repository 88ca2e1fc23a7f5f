/- Contracts of slices.Backward over limbs and of modular.Reduce. -/
import Derived.Test.YtnlmdjbakcjhbaaDoorVModF
import Derived.Test.YtnlmdjbakcjhbaaDoorVG0Num
namespace Go.Proofs.YtnlmdjbakcjhbaaDoor
open Go.RowKit Go.Shelf
attribute [local go_sem] Oper.semAt_some
/-- A word of 32 bits. -/
def wr32 (x : Nat) : Nat := x % 4294967296
theorem wr32_lt (x : Nat) : wr32 x < 4294967296 := Nat.mod_lt _ (by decide)
theorem wr32_of {x : Nat} (h : x < 4294967296) : wr32 x = x := Nat.mod_eq_of_lt h
/-- The last k limbs with their places, the last one first. -/
def backs (xs : List Nat) (n : Nat) : Nat → List (Nat × Nat)
  | 0 => []
  | k + 1 => backs xs n k ++ [(n - 1 - k, xs.getD (n - 1 - k) 0)]
theorem backs_len (xs : List Nat) (n : Nat) : ∀ k, (backs xs n k).length = k
  | 0 => rfl
  | k + 1 => by rw [backs, List.length_append, backs_len xs n k]; rfl
theorem backs_add (xs : List Nat) (n j : Nat) : ∀ d, ∃ t, backs xs n (j + d) = backs xs n j ++ t
  | 0 => ⟨[], by simp⟩
  | d + 1 => by
    obtain ⟨t, ht⟩ := backs_add xs n j d
    exact ⟨t ++ [(n - 1 - (j + d), xs.getD (n - 1 - (j + d)) 0)], by rw [← Nat.add_assoc, backs, ht, List.append_assoc]⟩
theorem backs_pre (xs : List Nat) (n : Nat) {j k : Nat} (h : j ≤ k) : backs xs n j <+: backs xs n k := by
  obtain ⟨t, ht⟩ := backs_add xs n j (k - j)
  exact ⟨t, by rw [← ht]; congr 1; omega⟩
/-- What a round of the loop must keep. -/
def KpB (n₀ Bs : Nat) (W W' : World) : Prop := Below n₀ W W' ∧ W'.cell? ⟨Bs, 0, none⟩ = W.cell? ⟨Bs, 0, none⟩
set_option maxHeartbeats 1000000 in
theorem back_stops (F : Fence) (d : Nat) (hF : F.fn 108) (hro : F.round = none) (hd : 1 ≤ d) (Bs n₀ : Nat) (A : Option Addr) (n c : Nat) (xs : List Nat) (w : World) (hB : Bs < w.heap.size) (hn₀ : n₀ ≤ w.heap.size)
    (hc : w.cell? ⟨Bs, 0, none⟩ = some (.slice A n c)) (ha : Lim w n₀ A n c xs) :
    SeqStopsK F d Tryd.prog 108 #[.pointer (some ⟨Bs, 0, none⟩)] (fun y : Nat × Nat => #[.int .i64 (y.1 : Int), .int .u32 ((wr32 y.2 : Nat) : Int)]) (KpB n₀ Bs) (fun ys => ys = backs xs n n) (fun pre => pre <+: backs xs n n) n w := by
  intro l J Jx W hW _ _ hY h0
  have hBc : W.cell? ⟨Bs, 0, none⟩ = some (.slice A n c) := (hW.cell (p := ⟨Bs, 0, none⟩) hB).trans hc
  have hL : Lim W n₀ A n c xs := ha.below (hW.mono hn₀)
  have hcap := ha.cap
  refine callsIn_of_wp Tryd.func108 rfl hF ?_ hro
  simp only [Tryd.ntmps108, List.size_toArray, List.length_cons, List.length_nil, Nat.reduceAdd, Nat.reduceSub, Array.replicate_succ, Array.replicate_zero, List.push_toArray, List.append_toArray, List.nil_append, List.cons_append]
  gi_wp2
  gi_loopw [3] (fun s3 wr => ∃ k : Nat, s3 = .int .i64 ((n : Int) - 1 - k) ∧ k ≤ n ∧ wr.cell? ⟨Bs, 0, none⟩ = some (.slice A n c) ∧ Lim wr n₀ A n c xs ∧ J (backs xs n k) wr) (fun s3 _ => (intOf s3 + 1).toNat)
  case atStart => exact ⟨0, by simp, by omega, hBc, hL, h0⟩
  case round =>
    obtain ⟨k, rfl, hk, hcr, hlr, hJ⟩ := hrel
    by_cases hlt : k < n
    · obtain ⟨ad, rfl, _, x, hx, hxl, hcx⟩ := hlr.at_ (k := n - 1 - k) (by omega)
      have hyy := hY _ (n - 1 - k, xs.getD (n - 1 - k) 0) wr hJ (by rw [backs_len]; exact hlt)
      have he : ((n - 1 - k : Nat) : Int) = (n : Int) - 1 - k := by omega
      have hxx : wr32 (xs.getD (n - 1 - k) 0) = x := by rw [← hx.out]; exact wr32_of hxl
      dsimp only at hyy
      rw [he, hxx] at hyy
      obtain ⟨fn, tmps, assign, body, hy, hR⟩ := hyy
      have hlt2 : 0 ≤ (n : Int) - 1 - k := by omega
      have e1 : ((n : Int) - 1 - k).toNat = n - 1 - k := by omega
      clear he hxx
      gi_wp2
      refine hR.mono ?_
      rintro e W3 (⟨rfl, hJ3, hk3⟩ | ⟨rfl, hJx3⟩)
      · gi_wp2
        refine ⟨⟨k + 1, retV (by omega), by omega, hk3.2.trans hcr, hlr.below hk3.1, hJ3⟩, ?_⟩
        simp only [intOf]; omega
      · gi_wp2
        exact bodyPost_ret (results_none rfl _ _ _) rfl ⟨⟨_, rfl⟩, .inr ⟨_, backs_pre xs n (j := k + 1) (by omega), hJx3⟩⟩
    · have hlt2 : ¬ 0 ≤ (n : Int) - 1 - k := by omega
      have hke : k = n := by omega
      subst hke
      gi_wp2
      exact bodyPost_end (results_none rfl _ _ _) rfl ⟨⟨_, rfl⟩, .inl hJ⟩
set_option maxHeartbeats 400000 in
theorem back_any (A : Option Addr) (n c : Nat) (w : World) :
    Calls Tryd.prog 83 #[.slice A n c] w fun e w' => e = .returned (.func (.func 108) #[] #[.pointer (some ⟨w.heap.size, 0, none⟩)]) ∧ w' = w.alloc (.cells #[.slice A n c] 22) := by
  go_enter Tryd.func83, Tryd.ntmps83
  go_wp2
  go_ret
  exact ⟨rfl, rfl⟩
/-- The remainder of the limbs that have come. -/
def redF (p : Nat) (l : List (Nat × Nat)) : Nat := l.foldl (fun r q => (wr32 q.2 + 4294967296 * r) % p) 0
theorem redF_snoc (p : Nat) (l : List (Nat × Nat)) (q : Nat × Nat) : redF p (l ++ [q]) = (wr32 q.2 + 4294967296 * redF p l) % p := by
  rw [redF, List.foldl_append]; rfl
theorem redF_lt {p : Nat} (hp : 0 < p) (l : List (Nat × Nat)) : redF p l < p := by
  rcases List.eq_nil_or_concat l with rfl | ⟨l', q, rfl⟩
  · exact hp
  · rw [List.concat_eq_append, redF_snoc]; exact Nat.mod_lt _ hp
theorem redF_backs {p n : Nat} {xs : List Nat} (hlt : ∀ x ∈ xs, x < 4294967296) (hl : xs.length = n) : ∀ k, k ≤ n → redF p (backs xs n k) = val (xs.drop (n - k)) % p
  | 0, _ => by rw [Nat.sub_zero, ← hl, List.drop_length]; simp [backs, redF, val]
  | k + 1, h => by
    have ih := redF_backs (p := p) hlt hl k (by omega)
    have hx : xs.getD (n - 1 - k) 0 < 4294967296 := by
      rw [List.getD_eq_getElem?_getD, List.getElem?_eq_getElem (by omega)]
      exact hlt _ (List.getElem_mem _)
    rw [backs, redF_snoc, ih, wr32_of hx, show n - (k + 1) = n - 1 - k by omega, val_drop_cons (xs := xs) (k := n - 1 - k) (by omega), show n - 1 - k + 1 = n - k by omega, Nat.add_mod, Nat.mul_mod, Nat.mod_mod, ← Nat.mul_mod, ← Nat.add_mod]
theorem KpB.trans {n₀ Bs : Nat} {A B C : World} (h : KpB n₀ Bs A B) (k : KpB n₀ Bs B C) : KpB n₀ Bs A C := ⟨h.1.trans k.1, k.2.trans h.2⟩
theorem cell_new1 (w : World) (v : Value) (t : TypeId) : (w.alloc (.cells #[v] t)).cell? ⟨w.heap.size, 0, none⟩ = some v := by simp
theorem frozen_new1 (w : World) (v : Value) (t : TypeId) : (w.alloc (.cells #[v] t)).frozen? ⟨w.heap.size, 0, none⟩ = false := by simp
theorem cell_old {w : World} (o : Obj) (p : Addr) (h : p.block < w.heap.size) : (w.alloc o).cell? p = w.cell? p := ((Below.refl w.heap.size w).alloc (Nat.le_refl _) o).cell h
theorem frozen_old {w : World} (o : Obj) (p : Addr) (h : p.block < w.heap.size) : (w.alloc o).frozen? p = w.frozen? p := ((Below.refl w.heap.size w).alloc (Nat.le_refl _) o).frozen h
/-- The remainder of a signed number. -/
def redV (neg : Bool) (p v : Nat) : Nat := if neg then (0 + p - v % p) % p else v % p
set_option maxRecDepth 100000 in
set_option maxHeartbeats 2000000 in
theorem mred_any (p : Nat) (neg : Bool) (A : Option Addr) (n c : Nat) (xs : List Nat) (w : World) (hp0 : 0 < p) (hp : p < 2147483648) (ha : Lim w w.heap.size A n c xs) :
    Calls Tryd.prog 43 #[.int .u64 (p : Int), .agg #[.bool neg, .slice A n c]] w fun e W' => e = .returned (.int .u64 ((redV neg p (val xs) : Nat) : Int)) ∧ Below w.heap.size w W' := by
  refine (callsIn_wide (n := 5)).1 ?_
  refine callsIn_of_wp_marks Tryd.func43 rfl trivial ?_ rfl
  simp only [Tryd.ntmps43, List.size_toArray, List.length_cons, List.length_nil, Nat.reduceAdd, Nat.reduceSub, Array.replicate_succ, Array.replicate_zero, List.push_toArray, List.append_toArray, List.nil_append, List.cons_append]
  gi_wp2
  refine ⟨trivial, (callsIn_wide.2 (back_any _ _ _ _)).mono ?_⟩
  rintro e w1 ⟨rfl, rfl⟩
  gi_wp2
  obtain ⟨W0, hW0⟩ : ∃ W0, W0 = ((((w.alloc (.cells #[.int .u64 (p : Int)] 48)).alloc (.cells #[.bool neg, .slice A n c] 27)).alloc (.cells #[.int .u64 0] 48)).alloc (.cells #[.slice A n c] 22)) := ⟨_, rfl⟩
  rw [← hW0]
  have hB0 : Below w.heap.size w W0 := by rw [hW0]; exact ((((Below.refl _ w).alloc (Nat.le_refl _) _).alloc (by simp) _).alloc (by simp; omega) _).alloc (by simp; omega) _
  have hsz : W0.heap.size = w.heap.size + 4 := by rw [hW0]; simp
  have c0 : W0.cell? ⟨w.heap.size, 0, none⟩ = some (.int .u64 (p : Int)) := by
    rw [hW0]
    exact (cell_old _ _ (by simp; omega)).trans ((cell_old _ _ (by simp; omega)).trans ((cell_old _ _ (by simp)).trans (cell_new1 w _ _)))
  have c1 : W0.cell? ⟨w.heap.size + 1, 0, none⟩ = some (.bool neg) := by
    rw [hW0]
    have := (Slot2.new (w.alloc (.cells #[.int .u64 (p : Int)] 48)) (.bool neg) (.slice A n c) 27).1
    rw [World.size_alloc] at this
    exact (cell_old _ _ (by simp)).trans ((cell_old _ _ (by simp)).trans this)
  have c23 : W0.cell? ⟨w.heap.size + 1 + 1, 0, none⟩ = some (.int .u64 0) ∧ W0.frozen? ⟨w.heap.size + 1 + 1, 0, none⟩ = false := by
    rw [hW0]
    have h1 := cell_new1 ((w.alloc (.cells #[.int .u64 (p : Int)] 48)).alloc (.cells #[.bool neg, .slice A n c] 27)) (.int .u64 0) 48
    have h2 := frozen_new1 ((w.alloc (.cells #[.int .u64 (p : Int)] 48)).alloc (.cells #[.bool neg, .slice A n c] 27)) (.int .u64 0) 48
    rw [World.size_alloc, World.size_alloc] at h1 h2
    exact ⟨(cell_old _ _ (by simp)).trans h1, (frozen_old _ _ (by simp)).trans h2⟩
  obtain ⟨c2, f2⟩ := c23
  have c3 : W0.cell? ⟨w.heap.size + 1 + 1 + 1, 0, none⟩ = some (.slice A n c) := by
    rw [hW0]
    have h1 := cell_new1 (((w.alloc (.cells #[.int .u64 (p : Int)] 48)).alloc (.cells #[.bool neg, .slice A n c] 27)).alloc (.cells #[.int .u64 0] 48)) (.slice A n c) 22
    rw [World.size_alloc, World.size_alloc, World.size_alloc] at h1
    exact h1
  clear hW0
  have hseq := back_stops Fence.wide 4 trivial rfl (by decide) (w.heap.size + 1 + 1 + 1) w.heap.size A n c xs W0 (by omega) (by omega) c3 (ha.below hB0)
  refine wpIn_rangeFunc_ownF (F := Fence.wide) (n := 5) rfl (by decide) (gf := 108) (lb := #[.pointer (some ⟨w.heap.size + 1 + 1 + 1, 0, none⟩)]) rfl trivial (enters_of Tryd.func108 (by kernel_rfl) rfl) hseq KpB.trans
    (fun W l o o' hl ho h1 h2 => ⟨belowK_b (w := W0) (by omega) W l o o' hl ho h1 h2, World.cell?_of_block (World.putObj_heap_other (by show w.heap.size + 1 + 1 + 1 ≠ l; omega))⟩) (Below.refl _ _) (fun _ => rfl)
    (fun pre W => (W.cell? ⟨w.heap.size, 0, none⟩ = some (.int .u64 (p : Int)) ∧ W.cell? ⟨w.heap.size + 1, 0, none⟩ = some (.bool neg) ∧ W.cell? ⟨w.heap.size + 1 + 1, 0, none⟩ = some (.int .u64 ((redF p pre : Nat) : Int)) ∧ W.frozen? ⟨w.heap.size + 1 + 1, 0, none⟩ = false) ∧ Below w.heap.size w W)
    (fun _ _ _ => False)
    (OwnFrom.and (Own.from (fun s A B row hs hg hr => ⟨cell_kept hs.1 hg hr, cell_kept hs.2.1 hg hr, cell_kept hs.2.2.1 hg hr, (frozen_kept hs.2.2.1 hg hr).trans hs.2.2.2⟩) _) (ownFrom_below (Nat.le_refl _) (by omega)))
    (fun _ _ _ _ _ hs _ _ => hs)
    ⟨⟨c0, c1, c2, f2⟩, hB0⟩
    (fun x => { tmps := #[.int .u64 (p : Int), .agg #[.bool neg, .slice A n c], .pointer (some ⟨w.heap.size, 0, none⟩), .pointer (some ⟨w.heap.size + 1, 0, none⟩), .int .u64 0, .pointer (some ⟨w.heap.size + 1 + 1, 0, none⟩), undef, .int .u32 ((wr32 x.2 : Nat) : Int), .pointer (some ⟨w.heap.size + 1, 1, none⟩), .slice A n c, .func (.func 108) #[] #[.pointer (some ⟨w.heap.size + 1 + 1 + 1, 0, none⟩)], .int .i64 (x.1 : Int), .int .u32 ((wr32 x.2 : Nat) : Int), undef, undef, undef, undef, undef, undef, undef, undef, undef, undef, undef, undef, undef], defers := [] }) ?assign ?body ?done ?stop
  case assign =>
    intro l x W K hK
    gi_wp2
    exact hK
  case body =>
    rintro l pre x W ⟨⟨h0, h1, h2, h3⟩, hB⟩ _
    have hx := wr32_lt x.2
    have hr := redF_lt hp0 pre
    have hn := redF_snoc p pre x
    generalize redF p pre = r at *
    generalize wr32 x.2 = y at *
    have e1 : bits BinOp.or IntKind.u64 ((r : Int) * 4294967296) (y : Int) = ((y + 4294967296 * r : Nat) : Int) := or_limbs y r hx (by omega)
    have HN := Lib.hid hn
    have CP := Lib.hid (fun W => mrem_any (y + 4294967296 * r) p W hp0 (by omega))
    clear hn
    gi_wp2
    refine ⟨trivial, (CallsIn.inRound l (callsIn_wide.2 (CP.out _))).mono ?_⟩
    rintro e w' ⟨rfl, hd⟩
    have h2' := (hd.cell ⟨w.heap.size + 1 + 1, 0, none⟩).trans h2
    have h3' := (hd.frozen ⟨w.heap.size + 1 + 1, 0, none⟩).trans h3
    gi_wp2
    have hmod : (((y + 4294967296 * r) % p : Nat) : Int) = ((y : Int) + 4294967296 * r) % p := by simp
    refine ⟨hd.keeps.trans (KeepsOthers.setCell _ _ _), ⟨(hd.below _).setCell (p := ⟨w.heap.size + 1 + 1, 0, none⟩) (by show w.heap.size ≤ w.heap.size + 1 + 1; omega) _, ?_⟩, ⟨?_, ?_, ?_, ?_⟩, (hB.trans (hd.below _)).setCell (p := ⟨w.heap.size + 1 + 1, 0, none⟩) (by show w.heap.size ≤ w.heap.size + 1 + 1; omega) _⟩
    · rw [World.cell?_setCell_other _ _ _ _ (by simp), hd.cell]
    · rw [World.cell?_setCell_other _ _ _ _ (by simp), hd.cell, h0]
    · rw [World.cell?_setCell_other _ _ _ _ (by simp), hd.cell, h1]
    · rw [World.cell?_setCell_same' _ _ _ (by rw [h2']; rfl), HN.out, hmod]
    · rw [World.frozen?_setCell, h3']
  case done =>
    rintro D ys W hD rfl ⟨⟨h0, h1, h2, h3⟩, hB⟩ hK
    rw [redF_backs ha.lt ha.len n (Nat.le_refl _), Nat.sub_self, List.drop_zero] at h2
    have hr := Nat.mod_lt (val xs) hp0
    have hV : redV neg p (val xs) = if neg then (0 + p - val xs % p) % p else val xs % p := rfl
    generalize val xs % p = r at *
    cases neg
    · have HV := Lib.hid (show redV false p (val xs) = r from hV)
      clear hV
      gi_wp2
      refine ⟨by simp, .inl ⟨_, _, rfl, run_takeDeferred hK, ?_⟩⟩
      exact ⟨_, results_tmp rfl _ _ _, by rw [HV.out]; rfl, hB.trans (belowK_b (w := W0) (by omega) W D _ _ hD hK rfl rfl)⟩
    · have HV := Lib.hid (show redV true p (val xs) = (0 + p - r) % p from hV)
      have CP := Lib.hid (fun W => msub_any p 0 r W hp hp0 hr)
      clear hV
      gi_wp2
      refine ⟨trivial, (callsIn_wide.2 (CP.out _)).mono ?_⟩
      rintro e w' ⟨rfl, hd⟩
      have hK' := hd.keeps.same D _ hK rfl
      gi_wp2
      refine ⟨by simp, .inl ⟨_, _, rfl, run_takeDeferred hK', ?_⟩⟩
      exact ⟨_, results_tmp rfl _ _ _, by rw [HV.out]; simp, (hB.trans (hd.below _)).trans (belowK_b (w := W0) (by omega) w' D _ _ hD hK' rfl rfl)⟩
  case stop =>
    rintro D c pre W hD _ h _
    exact h.elim
end Go.Proofs.YtnlmdjbakcjhbaaDoor
