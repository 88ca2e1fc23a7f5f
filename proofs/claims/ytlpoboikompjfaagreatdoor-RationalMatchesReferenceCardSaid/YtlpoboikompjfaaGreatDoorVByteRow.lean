/- Owned rows of bytes: append and conversion to a string. -/
import Derived.Test.YtlpoboikompjfaaGreatDoorVG4RAdd
import Derived.Test.YtlpoboikompjfaaGreatDoorVG10DivMod
import Derived.Maps.AppendAt
import Derived.Laws.AppendOwnNone
namespace Go.Proofs.YtlpoboikompjfaaGreatDoor
open Go.RowKit
theorem byt_append (xs ys : List Nat) : byt (xs ++ ys) = byt xs ++ byt ys := by simp [byt]
/-- The slice value v owns a row of its own with the bytes xs. -/
def OwnB (w : World) (base : Nat) (v : Value) (n : Nat) (xs : List Nat) : Prop := w.ownsRow base 5 1 v n (byt xs)
theorem OwnB.len {w : World} {base : Nat} {v : Value} {n : Nat} {xs : List Nat} (h : OwnB w base v n xs) : xs.length = n := by
  have := h.1
  rw [byt_len] at this; omega
theorem OwnB.form {w : World} {base : Nat} {v : Value} {n : Nat} {xs : List Nat} (h : OwnB w base v n xs) : ∃ A c, v = .slice A n c := by
  have hlen := h.len
  rcases h.2 with ⟨rfl, rfl⟩ | ⟨g, cap, cur, rfl, hb, hg, hn, hm, hs, ht⟩
  · have : xs = [] := List.eq_nil_of_length_eq_zero hlen
    subst this
    exact ⟨none, 0, rfl⟩
  · exact ⟨_, _, rfl⟩
theorem OwnB.cells {w : World} {base : Nat} {A : Option Addr} {n m c : Nat} {xs : List Nat} (h : OwnB w base (.slice A m c) n xs) :
    (A = none ∧ n = 0) ∨ ∃ ad, A = some ad ∧ ∀ j u, (byt xs)[j]? = some u → w.cell? (ad.add j) = some u := by
  have hlen := h.len
  rcases h.2 with ⟨h1, h2⟩ | ⟨g, cap, cur, h1, hb, hg, hn, hm, hs, ht⟩
  · cases h1; exact .inl ⟨rfl, by omega⟩
  · cases h1
    refine .inr ⟨_, rfl, fun j u hu => ?_⟩
    have hj : j < n := by
      rcases Nat.lt_or_ge j n with h0 | h0
      · exact h0
      · rw [List.getElem?_eq_none (by rw [byt_len, hlen]; exact h0)] at hu
        cases hu
    rw [Addr.add_lit, cell_of_row w g (0 + j) cur _ _ hg, Nat.zero_add, ← hu, ← ht, Nat.mul_one, List.getElem?_take, if_pos hj]
    simp
theorem OwnB.keep {w w' : World} {base : Nat} {v : Value} {n : Nat} {xs : List Nat} (h : OwnB w base v n xs) (hb : Below w.heap.size w w') : OwnB w' base v n xs := by
  refine ⟨h.1, ?_⟩
  rcases h.2 with hn | ⟨g, cap, cur, rfl, hg, hgg, rest⟩
  · exact .inl hn
  · exact .inr ⟨g, cap, cur, rfl, hg, by rw [hb.block g (Array.getElem?_eq_some_iff.1 hgg).1]; exact hgg, rest⟩
theorem OwnB.mono {w : World} {base base' : Nat} {v : Value} {n : Nat} {xs : List Nat} (h : OwnB w base v n xs) (hb : base' ≤ base) : OwnB w base' v n xs := by
  refine ⟨h.1, ?_⟩
  rcases h.2 with hn | ⟨g, cap, cur, rfl, hg, rest⟩
  · exact .inl hn
  · exact .inr ⟨g, cap, cur, rfl, Nat.le_trans hb hg, rest⟩
theorem OwnB.far {w : World} {base : Nat} {v : Value} {n : Nat} {xs : List Nat} (h : OwnB w base v n xs) {p : Addr} (hp : p.block < base) (u : Value) : OwnB (w.setCell p u) base v n xs := by
  refine ⟨h.1, ?_⟩
  rcases h.2 with hn | ⟨g, cap, cur, rfl, hg, hgg, rest⟩
  · exact .inl hn
  · exact .inr ⟨g, cap, cur, rfl, hg, (Below.heap_setCell w p u g (by omega)).trans hgg, rest⟩
theorem OwnB.empty (w : World) (base : Nat) (hb : base ≤ w.heap.size) : OwnB (w.alloc (.cells #[] 5)) base (.slice (some ⟨w.heap.size, 0, none⟩) 0 0) 0 [] :=
  ⟨rfl, .inr ⟨_, 0, #[], rfl, hb, heap_alloc_new w _, Nat.le_refl _, Nat.zero_le _, rfl, rfl⟩⟩
theorem OwnB.one (w : World) (base x : Nat) (hb : base ≤ w.heap.size) : OwnB (w.alloc (.cells #[.int .u8 (x : Int)] 5)) base (.slice (some ⟨w.heap.size, 0, none⟩) 1 1) 1 [x] :=
  ⟨rfl, .inr ⟨_, 1, #[.int .u8 (x : Int)], rfl, hb, heap_alloc_new w _, Nat.le_refl _, by unfold maxLen; omega, rfl, rfl⟩⟩
theorem OwnB.conv {w : World} {base : Nat} {A : Option Addr} {n c : Nat} {bs : List Nat} (h : OwnB w base (.slice A n c) n bs) (hn : 0 < n) (hdg : ∀ b ∈ bs, b < 256) :
    (convert 119 9 (.slice A n c)).run Tryz.prog w = .ok (.string ⟨(bs.map UInt8.ofNat).toArray⟩) w := by
  have hlen := h.len
  rcases h.cells with ⟨_, h0⟩ | ⟨ad, rfl, hc⟩
  · omega
  · have := run_convert_bytes_back (P := Tryz.prog) w 119 9 5 ad c (bs.map UInt8.ofNat) Tryz.underlying119 Tryz.underlying5 Tryz.underlying9 (fun j hj => by
      rw [List.length_map] at hj
      rw [hc j _ (byt_get bs j hj), List.getElem_map, UInt8.toNat_ofNat', Nat.mod_eq_of_lt (hdg _ (List.getElem_mem (h := hj))), List.getD_eq_getElem?_getD, List.getElem?_eq_getElem hj]
      rfl)
    rwa [List.length_map, hlen] at this
theorem info_partsB : ∃ i, Tryz.prog.info? 5 = some i ∧ i.zero = some (.int .u8 0) ∧ i.size = 1 ∧ i.bytes = 1 := by
  have h := infoB
  cases hq : Tryz.prog.info? 5 with
  | none => rw [hq] at h; cases h
  | some i =>
    rw [hq] at h
    simp only [Option.map_some, Option.some.injEq, Prod.mk.injEq] at h
    exact ⟨i, rfl, h.1, h.2.1, h.2.2⟩
theorem wpList_append_b {ops : Array Oper} {rest : List Oper} {o : Oper} {a : Act} {Q : Exit → Act → World → Prop} (w : World) (hgd : o.guard = none) (s x : Operand)
    (ho : o.op = .call { callee := .builtin .append, args := #[s, x], argTypes := #[119, 119] })
    (base : Nat) (v : Value) (n : Nat) (xs : List Nat) (hs : a.eval s = v) (hown : OwnB w base v n xs)
    (base2 : Nat) (A : Option Addr) (m c : Nat) (news : List Nat) (hx : a.eval x = .slice A m c) (hr : OwnB w base2 (.slice A m c) m news) (h63 : n + m ≤ 1000000) (hbase : base ≤ w.heap.size)
    (h : ∀ A' c' w', OwnB w' base (.slice A' (n + m) c') (n + m) (xs ++ news) → w.grownBy w' v.ownBlock → wpList Tryz.prog ops Q rest (a.put o.dst (.slice A' (n + m) c')) w') :
    wpList Tryz.prog ops Q (o :: rest) a w := by
  obtain ⟨i0, hi, hz0, hz1, hz2⟩ := info_partsB
  have key : ∃ v' w', (Builtin.append_ #[119, 119] o.type #[v, .slice A m c]).run Tryz.prog w = .ok v' w' ∧ OwnB w' base v' (n + m) (xs ++ news) ∧ w.grownBy w' v.ownBlock := by
    rcases hr.cells with ⟨rfl, rfl⟩ | ⟨ad, rfl, hcells⟩
    · have hn : news = [] := List.eq_nil_of_length_eq_zero hr.len
      subst hn
      refine ⟨v, w, ?_, by simpa using hown, World.grownBy.refl w _⟩
      rcases hown.2 with ⟨rfl, rfl⟩ | ⟨g, cap, cur, rfl, _, _, hnc, _⟩
      · simp [Builtin.append_, run_underlying Tryz.underlying119, sizeOf, typeInfo, hi, Builtin.lenOf, Builtin.firstCells]
      · simp [Builtin.append_, run_underlying Tryz.underlying119, sizeOf, typeInfo, hi, Builtin.lenOf, Builtin.firstCells, hnc, storeCells]
    · obtain ⟨v', w', hrun, h2, h3, _, _⟩ := run_append_own_at (P := Tryz.prog) w base 119 o.type 5 i0 _ 1 1 Tryz.underlying119 hi hz0 hz1 hz2 rfl (by omega) v n (byt xs) hown ad m c (byt news)
        (by rw [byt_len, hr.len]; omega) hcells (byt_one news) (by unfold maxLen; omega) (by omega) hbase
      rw [← byt_append] at h2
      exact ⟨v', w', hrun, h2, h3⟩
  obtain ⟨v', w', hrun, h2, h3⟩ := key
  obtain ⟨A', c', rfl⟩ := h2.form
  refine wpList_plain hgd fun K hK => ?_
  unfold Oper.wp execOp
  simp only [ho, resolve, invoke, builtin, Sem.run_bind, Sem.run_pure, Result.andThen_ok, List.map_toArray, List.map_cons, List.map_nil, hs, hx, hrun]
  exact hK _ _ (h A' c' w' h2 h3)
/-- What the loop of the reference's Text keeps. -/
structure TxInv (V R : Nat) (bs : List Nat) : Prop where
  dig : ∀ b ∈ bs, 48 ≤ b ∧ b ≤ 57
  more : 0 < R ∨ bs = [] → tx V = tx R ++ bs.map UInt8.ofNat
  done : R = 0 → bs ≠ [] → tx V = bs.map UInt8.ofNat
theorem TxInv.start (V : Nat) : TxInv V V [] := ⟨by simp, fun _ => by simp, fun _ h => absurd rfl h⟩
theorem TxInv.step {V R : Nat} {bs : List Nat} (h : TxInv V R bs) (h0 : 0 < R ∨ bs = []) : TxInv V (R / 10) ((48 + R % 10) :: bs) := by
  have hm := h.more h0
  refine ⟨fun b hb => ?_, fun h1 => ?_, fun h1 _ => ?_⟩
  · rcases List.mem_cons.1 hb with e | e
    · omega
    · exact h.dig b e
  · rcases h1 with h1 | h1
    · rw [hm, tx, if_neg (by omega)]
      simp
    · cases h1
  · rw [hm, tx, if_pos (by omega), Nat.mod_eq_of_lt (by omega)]
    simp
end Go.Proofs.YtlpoboikompjfaaGreatDoor
