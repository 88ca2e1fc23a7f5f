/- Contracts of modular.firstPrime, Next and Before. -/
import Derived.RangeFuncFrom
import Derived.Test.YtnlmdjbakcjhbaaDoorVModI
namespace Go.Proofs.YtnlmdjbakcjhbaaDoor
open Go.RowKit Go.Shelf
attribute [local go_sem] Oper.semAt_some
/-- r is the first number of xs that is taken for a prime, or 0. -/
def FirstIn (xs : List Nat) (r : Nat) : Prop := (r = 0 ∧ ∀ y ∈ xs, primeF (wr64 y) = false) ∨ ∃ pre x, pre ++ [x] <+: xs ∧ (∀ y ∈ pre, primeF (wr64 y) = false) ∧ primeF (wr64 x) = true ∧ r = wr64 x
theorem Drawn.keeps {w w' : World} (h : Drawn w w') : KeepsOthers w w' := by
  obtain ⟨q, rfl⟩ := h
  exact ⟨Nat.le_refl _, fun _ _ h _ => h⟩
theorem TabW.kept {A B : World} {row : Option Nat} (h : TabW A) (hg : A.grownBy B row) (hr : ∀ r, row = some r → ∃ o : Obj, A.heap[r]? = some o ∧ o.isCells = false) : TabW B :=
  ⟨fun j hj => cell_kept (h.t j hj) hg hr, cell_kept h.b0 hg hr, cell_kept h.b1 hg hr, cell_kept h.b2 hg hr, cell_kept h.b3 hg hr⟩
set_option maxRecDepth 100000 in
set_option maxHeartbeats 2000000 in
theorem first_any (gf : Nat) (lb : Array Value) (xs : List Nat) (N : Nat) (w : World) (hT : TabW w) (h5 : TabN w.heap.size) (eg : ∀ args W, (callFunc gf args).run Tryd.prog W = .ok (.enter gf args) W)
    (hseq : ∀ W, Below w.heap.size w W → SeqStopsK Fence.wide 4 Tryd.prog gf lb (fun y : Nat => #[.int .u64 ((wr64 y : Nat) : Int)]) (fun _ _ => True) (fun ys => ys = xs) (fun pre => pre <+: xs) N W) :
    Calls Tryd.prog 104 #[.func (.func gf) #[] lb] w fun e W' => ∃ r : Nat, e = .returned (.int .u64 (r : Int)) ∧ FirstIn xs r ∧ Below w.heap.size w W' := by
  refine (callsIn_wide (n := 5)).1 ?_
  refine callsIn_of_wp_marks Tryd.func104 rfl trivial ?_ rfl
  simp only [Tryd.ntmps104, List.size_toArray, List.length_cons, List.length_nil, Nat.reduceAdd, Nat.reduceSub, Array.replicate_succ, Array.replicate_zero, List.push_toArray, List.append_toArray, List.nil_append, List.cons_append]
  gi_wp2
  have c0 : (w.alloc (.cells #[.int .u64 0] 48)).cell? ⟨w.heap.size, 0, none⟩ = some (.int .u64 0) ∧ (w.alloc (.cells #[.int .u64 0] 48)).frozen? ⟨w.heap.size, 0, none⟩ = false := ⟨by simp, by simp⟩
  have hB0 : Below w.heap.size w (w.alloc (.cells #[.int .u64 0] 48)) := (Below.refl _ w).alloc (Nat.le_refl _) _
  refine wpIn_rangeFunc_ownF (F := Fence.wide) rfl (by decide) (gf := gf) (lb := lb) rfl trivial eg (hseq _ hB0) (fun _ _ => trivial) (fun _ _ _ _ _ _ _ _ => trivial) (Below.refl _ _) (fun _ => rfl)
    (fun pre W => ((∀ y ∈ pre, primeF (wr64 y) = false) ∧ TabW W ∧ W.cell? ⟨w.heap.size, 0, none⟩ = some (.int .u64 0) ∧ W.frozen? ⟨w.heap.size, 0, none⟩ = false) ∧ Below w.heap.size w W)
    (fun c pre W => (c = .ret ∧ ∃ p x, pre = p ++ [x] ∧ (∀ y ∈ p, primeF (wr64 y) = false) ∧ primeF (wr64 x) = true ∧ W.cell? ⟨w.heap.size, 0, none⟩ = some (.int .u64 ((wr64 x : Nat) : Int))) ∧ Below w.heap.size w W)
    (OwnFrom.and (Own.from (fun s A B row hs hg hr => ⟨hs.1, hs.2.1.kept hg hr, cell_kept hs.2.2.1 hg hr, (frozen_kept hs.2.2.1 hg hr).trans hs.2.2.2⟩) _) (ownFrom_below (Nat.le_refl _) (by simp)))
    (fun c => OwnFrom.and (Own.from (fun s A B row hs hg hr => ⟨hs.1, by obtain ⟨p, x, h1, h2, h3, h4⟩ := hs.2; exact ⟨p, x, h1, h2, h3, cell_kept h4 hg hr⟩⟩) _) (ownFrom_below (Nat.le_refl _) (by simp)))
    ⟨⟨by simp, hT.below hB0 h5, c0.1, c0.2⟩, hB0⟩
    (fun x => { tmps := #[.func (.func gf) #[] lb, undef, .pointer (some ⟨w.heap.size, 0, none⟩), .int .u64 ((wr64 x : Nat) : Int), .func (.func gf) #[] lb, .int .u64 ((wr64 x : Nat) : Int), undef, undef, undef], defers := [] }) ?assign ?body ?done ?stop
  case assign =>
    intro l x W K hK
    gi_wp2
    exact hK
  case body =>
    rintro l pre x W ⟨⟨hp, hTW, hcr, hfr⟩, hB⟩ _
    have hx := wr64_lt x
    obtain ⟨v, hv⟩ : ∃ v, v = primeF (wr64 x) := ⟨_, rfl⟩
    have CP := prime_any (wr64 x) W hx hTW
    rw [← hv] at CP
    have HV := Lib.hid hv
    have CP' := Lib.hid CP
    clear hv CP
    have h1 : 1 ≤ 5 - 1 - 1 := by decide
    cases v
    · gi_wp2
      refine ⟨trivial, (CallsIn.inRound l (callsIn_wide.2 CP'.out)).mono ?_⟩
      rintro e w' ⟨rfl, hd⟩
      gi_wp2
      refine ⟨hd.keeps, trivial, ⟨fun y hy => (List.mem_append.1 hy).elim (hp y) (fun e => ?_), hTW.drawn hd, (hd.cell _).trans hcr, (hd.frozen _).trans hfr⟩, hB.trans (hd.below _)⟩
      obtain rfl : y = x := by simpa using e
      exact HV.out.symm
    · gi_wp2
      refine ⟨trivial, (CallsIn.inRound l (callsIn_wide.2 CP'.out)).mono ?_⟩
      rintro e w' ⟨rfl, hd⟩
      have hcr2 := (hd.cell ⟨w.heap.size, 0, none⟩).trans hcr
      have hfr2 := (hd.frozen ⟨w.heap.size, 0, none⟩).trans hfr
      gi_wp2
      exact ⟨hd.keeps.trans (KeepsOthers.setCell _ _ _), ⟨rfl, pre, x, rfl, hp, HV.out.symm, World.cell?_setCell_same' _ _ _ (by rw [hcr2]; rfl)⟩, (hB.trans (hd.below _)).setCell (p := ⟨w.heap.size, 0, none⟩) (Nat.le_refl _) _⟩
  case done =>
    rintro D ys W hD rfl ⟨⟨hne, _, hcr, hfr⟩, hB⟩ hK
    gi_wp2
    have hK' := (KeepsOthers.setCell W ⟨w.heap.size, 0, none⟩ (.int .u64 0)).same D _ hK rfl
    refine ⟨by simp, .inl ⟨_, _, rfl, run_takeDeferred hK', ?_⟩⟩
    have hc5 := cell_kept (World.cell?_setCell_same' W ⟨w.heap.size, 0, none⟩ (.int .u64 0) (by rw [hcr]; rfl)) (grownBy_putObj' _ D (.deferred none)) (fun r e => by cases e; exact ⟨_, hK', rfl⟩)
    refine ⟨.int .u64 0, ?_, 0, rfl, .inl ⟨rfl, hne⟩, (hB.setCell (p := ⟨w.heap.size, 0, none⟩) (Nat.le_refl _) _).trans (belowK_b (w := w) (Nat.le_refl _) _ D _ _ (by simp at hD; omega) hK' rfl rfl)⟩
    simp [results, Tryd.results104, go_sem, hc5]
  case stop =>
    rintro D c pre W hD hpre ⟨⟨rfl, p, x, rfl, hp, hx, hcr⟩, hB⟩ hK
    gi_wp2
    refine ⟨by simp, .inl ⟨_, _, rfl, run_takeDeferred hK, ?_⟩⟩
    have hc5 := cell_kept hcr (grownBy_putObj' _ D (.deferred none)) (fun r e => by cases e; exact ⟨_, hK, rfl⟩)
    refine ⟨.int .u64 ((wr64 x : Nat) : Int), ?_, wr64 x, rfl, .inr ⟨p, x, hpre, hp, hx, rfl⟩, hB.trans (belowK_b (w := w) (Nat.le_refl _) W D _ _ (by simp at hD; omega) hK rfl rfl)⟩
    simp [results, Tryd.results104, go_sem, hc5]
set_option maxHeartbeats 400000 in
theorem above_any (n : Nat) (w : World) :
    Calls Tryd.prog 105 #[.int .u64 (n : Int)] w fun e w' => e = .returned (.func (.func 121) #[] #[.pointer (some ⟨w.heap.size, 0, none⟩)]) ∧ w' = w.alloc (.cells #[.int .u64 (n : Int)] 48) := by
  go_enter Tryd.func105, Tryd.ntmps105
  go_wp2
  go_ret
  exact ⟨rfl, rfl⟩
set_option maxHeartbeats 400000 in
theorem below_any (n : Nat) (w : World) :
    Calls Tryd.prog 106 #[.int .u64 (n : Int)] w fun e w' => e = .returned (.func (.func 122) #[] #[.pointer (some ⟨w.heap.size, 0, none⟩)]) ∧ w' = w.alloc (.cells #[.int .u64 (n : Int)] 48) := by
  go_enter Tryd.func106, Tryd.ntmps106
  go_wp2
  go_ret
  exact ⟨rfl, rfl⟩
set_option maxHeartbeats 1000000 in
theorem next_any (n : Nat) (w : World) (hT : TabW w) (h5 : TabN w.heap.size) :
    Calls Tryd.prog 78 #[.int .u64 (n : Int)] w fun e W' => ∃ r : Nat, e = .returned (.int .u64 (r : Int)) ∧ FirstIn (upto (fun k => min n 2147483648 + 1 + k) (2147483648 - (min n 2147483648 + 1))) r ∧ Below w.heap.size w W' := by
  have hB := (Below.refl w.heap.size w).alloc (Nat.le_refl _) (.cells #[.int .u64 (n : Int)] 48)
  have HF := first_any 121 #[.pointer (some ⟨w.heap.size, 0, none⟩)] (upto (fun k => min n 2147483648 + 1 + k) (2147483648 - (min n 2147483648 + 1))) 2147483648 (w.alloc (.cells #[.int .u64 (n : Int)] 48)) (hT.below hB h5) (h5.le hB.size)
    (enters_of Tryd.func121 (by kernel_rfl) rfl)
    (fun W hW => above_stops Fence.wide 4 trivial rfl (by decide) w.heap.size n _ rfl W (Nat.lt_of_lt_of_le (by simp) hW.size) ((hW.cell (p := ⟨w.heap.size, 0, none⟩) (by simp)).trans (by simp)))
  generalize upto (fun k => min n 2147483648 + 1 + k) (2147483648 - (min n 2147483648 + 1)) = xs at *
  have HF' := Lib.hid HF
  clear HF
  go_enter Tryd.func78, Tryd.ntmps78
  go_wp2_with fail
  refine (above_any n w).mono ?_
  rintro e w1 ⟨rfl, rfl⟩
  go_wp2_with fail
  refine HF'.out.mono ?_
  rintro e w2 ⟨r, rfl, hr, hb2⟩
  go_wp2_with fail
  go_ret
  exact ⟨r, rfl, hr, hB.trans (hb2.mono hB.size)⟩
set_option maxHeartbeats 1000000 in
theorem before_any (n : Nat) (w : World) (hT : TabW w) (h5 : TabN w.heap.size) :
    Calls Tryd.prog 79 #[.int .u64 (n : Int)] w fun e W' => ∃ r : Nat, e = .returned (.int .u64 (r : Int)) ∧ FirstIn (upto (fun k => min n 2147483648 - 1 - k) (min n 2147483648 - 1)) r ∧ Below w.heap.size w W' := by
  have hB := (Below.refl w.heap.size w).alloc (Nat.le_refl _) (.cells #[.int .u64 (n : Int)] 48)
  have HF := first_any 122 #[.pointer (some ⟨w.heap.size, 0, none⟩)] (upto (fun k => min n 2147483648 - 1 - k) (min n 2147483648 - 1)) 2147483648 (w.alloc (.cells #[.int .u64 (n : Int)] 48)) (hT.below hB h5) (h5.le hB.size)
    (enters_of Tryd.func122 (by kernel_rfl) rfl)
    (fun W hW => below_stops Fence.wide 4 trivial rfl (by decide) w.heap.size n _ rfl W (Nat.lt_of_lt_of_le (by simp) hW.size) ((hW.cell (p := ⟨w.heap.size, 0, none⟩) (by simp)).trans (by simp)))
  generalize upto (fun k => min n 2147483648 - 1 - k) (min n 2147483648 - 1) = xs at *
  have HF' := Lib.hid HF
  clear HF
  go_enter Tryd.func79, Tryd.ntmps79
  go_wp2_with fail
  refine (below_any n w).mono ?_
  rintro e w1 ⟨rfl, rfl⟩
  go_wp2_with fail
  refine HF'.out.mono ?_
  rintro e w2 ⟨r, rfl, hr, hb2⟩
  go_wp2_with fail
  go_ret
  exact ⟨r, rfl, hr, hB.trans (hb2.mono hB.size)⟩
end Go.Proofs.YtnlmdjbakcjhbaaDoor
