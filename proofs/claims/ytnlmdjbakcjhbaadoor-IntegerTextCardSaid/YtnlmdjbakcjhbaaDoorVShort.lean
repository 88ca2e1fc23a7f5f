/- Contract of torsionref01.short. -/
import Derived.Test.YtnlmdjbakcjhbaaDoorVG24Sz
import Derived.Test.YtnlmdjbakcjhbaaDoorVG2TextA
namespace Go.Proofs.YtnlmdjbakcjhbaaDoor
open Go.RowKit
/-- What holds of a short division at a round's head: the limbs from place k + 1 on are done. -/
structure ShInv (w : World) (n d : Nat) (xs : List Nat) (wr : World) (k r : Nat) (ys : List Nat) : Prop where
  row : Row wr w.heap.size ys
  lim : Limbs ys
  len : ys.length = n
  eqn : val (xs.drop k) = val (ys.drop k) * d + r
  bel : Below w.heap.size w wr
theorem ShInv.step {w : World} {n d : Nat} {xs : List Nat} {wr : World} {k r x : Nat} {ys : List Nat} (h : ShInv w n d xs wr (k + 1) r ys) (hk : k < n) (hl : xs.length = n) (hd : 0 < d) (hx : x = xs.getD k 0) (hr : r < d) (hxl : x < 4294967296) :
    (r * 4294967296 + x) / d < 4294967296 ∧ ShInv w n d xs (wr.setCell ⟨w.heap.size, k, none⟩ (.int .u32 (((r * 4294967296 + x) / d : Nat) : Int))) k ((r * 4294967296 + x) % d) (ys.set k ((r * 4294967296 + x) / d)) := by
  have hv1 : (r * 4294967296 + x) / d < 4294967296 := by
    rw [Nat.div_lt_iff_lt_mul hd]
    have : 4294967296 * (r + 1) ≤ 4294967296 * d := Nat.mul_le_mul_left _ hr
    omega
  refine ⟨hv1, h.row.set _ _, limbs_set h.lim _ hv1, by rw [List.length_set]; exact h.len, ?_, h.bel.setCell (by simp) _⟩
  have htd := Nat.div_add_mod (r * 4294967296 + x) d
  rw [val_set_drop (by rw [h.len]; exact hk), val_drop_cons (xs := xs) (k := k) (by omega), h.eqn, ← hx]
  generalize (r * 4294967296 + x) / d = v at *
  generalize (r * 4294967296 + x) % d = r' at *
  rw [Nat.add_mul, Nat.mul_add, ← Nat.mul_assoc]
  rw [Nat.mul_comm d v] at htd
  omega
theorem retT2 {k : IntKind} {a b : Int} {v : Value} (h : a = b) : Ending.returned (.tuple #[v, .int k a]) = .returned (.tuple #[v, .int k b]) := by rw [h]
set_option maxHeartbeats 1000000 in
theorem short_any (A : Option Addr) (n c B d : Nat) (xs : List Nat) (w : World) (ha : Lim w B A n c xs) (hB : B ≤ w.heap.size) (hn : n ≤ 1000000) (hd : 0 < d) (hdl : d < 4294967296) :
    Calls Tryd.prog 95 #[.slice A n c, .int .u32 (d : Int)] w fun e w' => ∃ A1 zs, e = .returned (.tuple #[.slice A1 n n, .int .u32 ((val xs % d : Nat) : Int)]) ∧ Lim w' w'.heap.size A1 n n zs ∧ val zs = val xs / d ∧ Below w.heap.size w w' := by
  have hmk : ∀ W : World, (Instr.makeSlice 22 (.int .i64 (n : Int)) (.int .i64 (n : Int))).run Tryd.prog W =
    .ok (.slice (some ⟨W.heap.size, 0, none⟩) n n) (W.alloc (.cells (madeCells #[.int .u32 0] n) 67)) := fun W => make_u32 n (by omega) W
  have b1 : ((d : Int) == 0) = false := by simp; omega
  have HL := Lib.hid ha.len
  go_enter Tryd.func95, Tryd.ntmps95
  go_wp2
  go_loopw [7, 8] (fun re i wr => ∃ (k r : Nat) (ys : List Nat), k ≤ n ∧ i = .int .i64 ((k : Int) - 1) ∧ re = .int .u64 r ∧ r < d ∧ ShInv w n d xs wr k r ys) (fun _ i _ => (intOf i + 1).toNat)
  case atStart =>
    refine ⟨n, 0, _, by omega, rfl, rfl, hd, Row.made w n, limbs_zeros _, by simp, ?_, (Below.refl _ _).alloc (Nat.le_refl _) _⟩
    rw [List.drop_of_length_le (by rw [HL.out]; exact Nat.le_refl _), List.drop_of_length_le (by simp)]; simp [val]
  case round =>
    obtain ⟨k, r, ys, hk, rfl, rfl, hr, HI⟩ := hrel
    rcases Nat.eq_zero_or_pos k with rfl | h0
    · go_wp2
      go_ret2
      have hv' := HI.eqn
      rw [List.drop_zero, List.drop_zero] at hv'
      refine ⟨_, ys, ?_, HI.row.len_lim HI.lim n HI.len (by omega), ?_, HI.bel⟩
      · exact retT2 (by rw [hv', Nat.mul_comm, Nat.mul_add_mod, Nat.mod_eq_of_lt hr])
      · rw [hv', Nat.mul_comm, Nat.mul_add_div hd, Nat.div_eq_of_lt hr, Nat.add_zero]
    · obtain ⟨k, rfl⟩ : ∃ j, k = j + 1 := ⟨k - 1, by omega⟩
      obtain ⟨ad, rfl, _, x, hx, hxl, hcx⟩ := (ha.below (HI.bel.mono hB)).at_ (show k < n by omega)
      have hc := HI.row.cell (k := k) (by rw [HI.len]; omega)
      have hf := HI.row.frozen k
      obtain ⟨hv1, HJ⟩ := HI.step (by omega) HL.out hd hx.out hr hxl
      have hm := Nat.mod_lt (r * 4294967296 + x) hd
      have i0 : ((k + 1 : Nat) : Int) - 1 = (k : Int) := by omega
      rw [i0]
      have e2 : ((r : Int) * 4294967296 + x) % (d : Int) = (((r * 4294967296 + x) % d : Nat) : Int) := by rw [Int.natCast_emod, Int.natCast_add, Int.natCast_mul]; rfl
      have e3 : ((r : Int) * 4294967296 + x) / (d : Int) % 4294967296 = (((r * 4294967296 + x) / d : Nat) : Int) := by
        have h : ((r : Int) * 4294967296 + x) / (d : Int) = (((r * 4294967296 + x) / d : Nat) : Int) := by rw [Int.natCast_ediv, Int.natCast_add, Int.natCast_mul]; rfl
        rw [h]; exact Int.emod_eq_of_lt (Int.natCast_nonneg _) (Int.ofNat_lt.2 hv1)
      have E2 := Lib.hid e2
      have E3 := Lib.hid e3
      clear e2 e3 i0
      go_wp2
      rw [E2.out, E3.out]
      exact ⟨⟨k, _, _, by omega, rfl, rfl, hm, HJ⟩, by simp [intOf] <;> omega⟩
end Go.Proofs.YtnlmdjbakcjhbaaDoor
