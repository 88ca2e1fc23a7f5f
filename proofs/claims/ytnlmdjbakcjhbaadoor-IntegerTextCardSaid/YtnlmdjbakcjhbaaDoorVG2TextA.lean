/- Contracts of integer.groupText and divideInPlace. Contract of integer.groupText; rows of bytes. Contract of integer.groups. Contracts of integer.isNumber. Contracts of integer.groupValue and appendGroup. Contracts of strings.TrimLeft at one byte and of strings.CutPrefix, by the library's own theorems at this program. Contract of integer.powerOfTwo. Contract of integer.shiftDown. Contracts of torsionref01.less, Same. -/
import Derived.Test.YtnlmdjbakcjhbaaDoorVG0Num
import Derived.Laws.CopyOwn
import Derived.Deep.RegionLaw
import Derived.Shelf.Strings.Trim
import Derived.Shelf.Small.Wraps
import Derived.Test.YtnlmdjbakcjhbaaDoorProg
namespace Go.Proofs.YtnlmdjbakcjhbaaDoor
open Go.RowKit
theorem only_set {w wr : World} {g k : Nat} (h : w.grownBy wr (some g)) (u : Nat) : w.grownBy (wr.setCell ⟨g, k, none⟩ (.int .u32 (u : Int))) (some g) :=
  ⟨h.os, h.tape, h.output, by simpa [World.setCell] using h.size, fun i hi hne => (Below.heap_setCell wr _ _ i (by rintro rfl; exact hne rfl)).trans (h.block i hi hne)⟩
theorem getD_left {k : Nat} (xs ys : List Nat) (h : k < xs.length) : (xs ++ ys).getD k 0 = xs.getD k 0 := by
  rw [List.getD_eq_getElem?_getD, List.getElem?_append_left h, ← List.getD_eq_getElem?_getD]
set_option maxHeartbeats 1000000 in
theorem divIn_any (g n c d : Nat) (xs tl : List Nat) (w : World) (hR : Row w g (xs ++ tl)) (hL : Limbs xs) (hl : xs.length = n) (_hnc : n ≤ c) (hn : n ≤ 1000000) (hd : 0 < d) (hdl : d < 4294967296) :
    Calls Tryd.prog 93 #[.slice (some ⟨g, 0, none⟩) n c, .int .u32 (d : Int)] w fun e w' => ∃ ys, e = .returned (.int .u32 ((val xs % d : Nat) : Int)) ∧ Row w' g (ys ++ tl) ∧ Limbs ys ∧ ys.length = n ∧ val ys = val xs / d ∧ w.grownBy w' (some g) := by
  have b1 : ((d : Int) == 0) = false := by simp; omega
  have HL := Lib.hid hl
  clear hl
  go_enter Tryd.func93, Tryd.ntmps93
  go_wp2
  go_loopw [5, 6] (fun re i wr => ∃ (k : Int) (r : Nat) (ys : List Nat), -1 ≤ k ∧ k < n ∧ i = .int .i64 k ∧ re = .int .u64 r ∧ r < d ∧ Row wr g (ys ++ tl) ∧ Limbs ys ∧ Hid (ys.length = n) ∧ Hid (ys.take (k + 1).toNat = xs.take (k + 1).toNat) ∧ Hid (val (xs.drop (k + 1).toNat) = val (ys.drop (k + 1).toNat) * d + r) ∧ w.grownBy wr (some g)) (fun _ i _ => (intOf i + 1).toNat)
  case atStart =>
    refine ⟨n - 1, 0, xs, by omega, by omega, rfl, rfl, hd, hR, hL, HL.out, rfl, ?_, World.grownBy.refl w _⟩
    rw [Hid, show ((n : Int) - 1 + 1).toNat = n by omega, List.drop_of_length_le (by rw [HL.out]; exact Nat.le_refl _)]; simp [val]
  case round =>
    obtain ⟨k, r, ys, hk, hkn, rfl, rfl, hr, hRy, hLy, hly, htk, hv, hgb⟩ := hrel
    by_cases h0 : 0 ≤ k
    · obtain ⟨k, rfl⟩ := Int.eq_ofNat_of_zero_le h0
      obtain ⟨x, hx⟩ : ∃ x, x = ys.getD k 0 := ⟨_, rfl⟩
      have hc := hRy.cell (k := k) (by rw [List.length_append, hly.out]; omega)
      rw [getD_left _ _ (by rw [hly.out]; omega)] at hc
      have hf := hRy.frozen k
      have hxl : x < 4294967296 := by
        rw [hx, List.getD_eq_getElem?_getD, List.getElem?_eq_getElem (by rw [hly.out]; omega)]
        exact hLy _ (List.getElem_mem _)
      rw [← hx] at hc
      have HX := Lib.hid hx
      clear hx
      go_wp2
      have e1 : bits BinOp.or IntKind.u64 ((r : Int) * 4294967296) (x : Int) = ((x + 4294967296 * r : Nat) : Int) := or_limbs x r hxl (by omega)
      rw [e1]
      obtain ⟨t, ht⟩ : ∃ t, t = x + 4294967296 * r := ⟨_, rfl⟩
      rw [← ht]
      have e2 : ((t : Int)).tmod (d : Int) = ((t % d : Nat) : Int) := rfl
      have e3 : ((t : Int)).tdiv (d : Int) = ((t / d : Nat) : Int) := rfl
      have hv1 : t / d < 4294967296 := by
        rw [Nat.div_lt_iff_lt_mul hd, ht]
        have : 4294967296 * (r + 1) ≤ 4294967296 * d := Nat.mul_le_mul_left _ hr
        omega
      have hm := Nat.mod_lt t hd
      have htd := Nat.div_add_mod t d
      rw [e2, e3]
      generalize t / d = v at *
      generalize t % d = r' at *
      have e4 : IntKind.u64.wrap (v : Int) % 4294967296 = (v : Int) := by rw [IntKind.wrap_u64]; omega
      rw [e4]
      have htk' := htk.out
      have hv' := hv.out
      rw [show ((k : Int) + 1).toNat = k + 1 by omega] at htk' hv'
      have hxx : x = xs.getD k 0 := by
        rw [HX.out, ← getD_take (xs := ys) (k := k + 1) (Nat.lt_succ_self k), htk', getD_take (Nat.lt_succ_self k)]
      refine ⟨⟨(k : Int) - 1, r', ys.set k v, by omega, by omega, rfl, rfl, hm, by rw [← List.set_append_left _ _ (by rw [hly.out]; omega)]; exact hRy.set _ _, limbs_set hLy _ hv1, by rw [Hid, List.length_set]; exact hly.out, ?_, ?_, ?_⟩, by show ((k : Int) - 1 + 1).toNat < ((k : Int) + 1).toNat; omega⟩
      · rw [Hid, show ((k : Int) - 1 + 1).toNat = k by omega, List.take_set_of_le (Nat.le_refl k)]
        have := congrArg (List.take k) htk'
        rw [List.take_take, List.take_take, Nat.min_eq_left (by omega)] at this
        exact this
      · rw [Hid, show ((k : Int) - 1 + 1).toNat = k by omega, val_set_drop (by rw [hly.out]; omega), val_drop_cons (xs := xs) (k := k) (by rw [HL.out]; omega), hv', ← hxx, Nat.add_mul, Nat.mul_add]
        rw [Nat.mul_comm d v] at htd
        rw [← Nat.mul_assoc]
        omega
      · exact only_set hgb v
    · obtain rfl : k = -1 := by omega
      go_wp2
      go_ret
      have hv' := hv.out
      rw [show ((-1 : Int) + 1).toNat = 0 from rfl, List.drop_zero, List.drop_zero] at hv'
      refine ⟨retI ?_, ys, hRy, hLy, hly.out, ?_, hgb⟩
      · rw [← Int.natCast_emod, hv', Nat.mul_comm, Nat.mul_add_mod, Nat.mod_eq_of_lt hr]
      · rw [hv', Nat.mul_comm, Nat.mul_add_div hd, Nat.div_eq_of_lt hr, Nat.add_zero]
end Go.Proofs.YtnlmdjbakcjhbaaDoor
namespace Go.Proofs.YtnlmdjbakcjhbaaDoor
open Go.RowKit
def byt (xs : List Nat) : List Value := xs.map fun (x : Nat) => Value.int .u8 (x : Int)
theorem byt_len (xs : List Nat) : (byt xs).length = xs.length := by simp [byt]
theorem byt_get (xs : List Nat) (k : Nat) (h : k < xs.length) : (byt xs)[k]? = some (.int .u8 ((xs.getD k 0 : Nat) : Int)) := by
  simp [byt, List.getD_eq_getElem?_getD, List.getElem?_eq_getElem h]
theorem byt_one (xs : List Nat) : ∀ u ∈ byt xs, u.oneCell' = true := by
  intro u hu
  simp only [byt, List.mem_map] at hu
  obtain ⟨x, _, rfl⟩ := hu
  rfl
/-- A block that holds just these bytes. -/
def RowB (w : World) (g : Nat) (t : TypeId) (xs : List Nat) : Prop := w.heap[g]? = some (.cells (byt xs).toArray t (0, 0))
section
variable {w w' : World} {g : Nat} {t : TypeId} {xs : List Nat}
theorem RowB.lt (h : RowB w g t xs) : g < w.heap.size := (Array.getElem?_eq_some_iff.1 h).1
theorem RowB.cell (h : RowB w g t xs) {k : Nat} (hk : k < xs.length) : w.cell? ⟨g, k, none⟩ = some (.int .u8 ((xs.getD k 0 : Nat) : Int)) := by
  rw [cell_of_row w g k _ _ _ h, List.getElem?_toArray, byt_get xs k hk]
theorem RowB.frozen (h : RowB w g t xs) (i : Nat) : w.frozen? ⟨g, i, none⟩ = false := by
  unfold RowB at h
  simp [World.frozen?, h]
theorem RowB.below {B : Nat} (h : RowB w g t xs) (hb : Below B w w') (hg : g < B) : RowB w' g t xs := (hb.block g hg).trans h
theorem RowB.alloc (h : RowB w g t xs) (o : Obj) : RowB (w.alloc o) g t xs := (Below.heap_alloc w o g h.lt).trans h
theorem RowB.drewN (h : RowB w g t xs) (n : Nat) : RowB (w.drewN n) g t xs := h
theorem RowB.drew (h : RowB w g t xs) : RowB w.drew g t xs := h
theorem RowB.far (h : RowB w g t xs) {p : Addr} (hp : g ≠ p.block) (u : Value) : RowB (w.setCell p u) g t xs := (Below.heap_setCell w p u g hp).trans h
theorem RowB.set (h : RowB w g t xs) (k x : Nat) : RowB (w.setCell ⟨g, k, none⟩ (.int .u8 (x : Int))) g t (xs.set k x) := by
  unfold RowB at h ⊢
  simp [World.setCell, Array.getElem?_modify, h, byt, List.map_set]
end
/-- The last j decimal digits of n, as characters. -/
def low : Nat → Nat → List Nat
  | 0, _ => []
  | j + 1, n => (48 + n / 10 ^ j % 10) :: low j n
theorem low_len (j n : Nat) : (low j n).length = j := by induction j with
  | zero => rfl
  | succ j ih => simp [low, ih]
theorem low_set (j k n : Nat) : (List.replicate (k + 1) 0 ++ low j n).set k (48 + n / 10 ^ j % 10) = List.replicate k 0 ++ low (j + 1) n := by
  rw [List.replicate_succ', List.append_assoc, List.set_append_right _ _ (by simp)]
  simp [low]
set_option maxHeartbeats 2000000 in
theorem groupText_any (n : Nat) (w : World) (hn : n < 4294967296) :
    Calls Tryd.prog 101 #[.int .u32 (n : Int)] w fun e w' => e = .returned (.agg (byt (low 9 n)).toArray) ∧ Below w.heap.size w w' := by
  go_enter Tryd.func101, Tryd.ntmps101
  go_wp2
  go_loopw [0, 4] (fun v i wr => ∃ (j k m : Nat) (bs : List Nat), j + k = 9 ∧ i = .int .i64 ((k : Int) - 1) ∧ v = .int .u32 m ∧ m < 4294967296 ∧ Hid (m = n / 10 ^ j) ∧ RowB wr (w.heap.size + 1) 116 bs ∧ Hid (bs = List.replicate k 0 ++ low j n) ∧ RowB wr w.heap.size 116 (List.replicate 9 0) ∧ Below w.heap.size w wr) (fun _ i _ => ((intOf i) + 1).toNat)
  case atStart =>
    refine ⟨0, 9, n, List.replicate 9 0, rfl, rfl, rfl, hn, by simp [Hid], ?_, by simp [Hid, low], ?_, ((Below.refl _ _).alloc (Nat.le_refl _) _).alloc (by simp) _⟩
    · have := heap_alloc_new (w.alloc (.cells #[.int .u8 0, .int .u8 0, .int .u8 0, .int .u8 0, .int .u8 0, .int .u8 0, .int .u8 0, .int .u8 0, .int .u8 0] 116)) (.cells #[.int .u8 0, .int .u8 0, .int .u8 0, .int .u8 0, .int .u8 0, .int .u8 0, .int .u8 0, .int .u8 0, .int .u8 0] 116)
      rw [World.size_alloc] at this
      exact this
    · exact RowB.alloc (xs := List.replicate 9 0) (heap_alloc_new w (.cells #[.int .u8 0, .int .u8 0, .int .u8 0, .int .u8 0, .int .u8 0, .int .u8 0, .int .u8 0, .int .u8 0, .int .u8 0] 116)) _
  case round =>
    obtain ⟨j, k, m, bs, hjk, rfl, rfl, hm, hmn, hR, hbs, hR0, hbel⟩ := hrel
    rcases Nat.eq_zero_or_pos k with rfl | hk
    · obtain rfl : j = 9 := by omega
      obtain ⟨a0, a1, a2, a3, a4, a5, a6, a7, a8, hb⟩ : ∃ a0 a1 a2 a3 a4 a5 a6 a7 a8, low 9 n = [a0, a1, a2, a3, a4, a5, a6, a7, a8] := ⟨_, _, _, _, _, _, _, _, _, rfl⟩
      obtain rfl : bs = [a0, a1, a2, a3, a4, a5, a6, a7, a8] := by rw [hbs.out, hb]; rfl
      have c0 := hR.cell (k := 0) (by simp)
      have z0 := hR0.cell (k := 0) (by simp)
      have f0 := hR0.frozen 0
      have c1 := hR.cell (k := 1) (by simp)
      have z1 := hR0.cell (k := 1) (by simp)
      have f1 := hR0.frozen 1
      have c2 := hR.cell (k := 2) (by simp)
      have z2 := hR0.cell (k := 2) (by simp)
      have f2 := hR0.frozen 2
      have c3 := hR.cell (k := 3) (by simp)
      have z3 := hR0.cell (k := 3) (by simp)
      have f3 := hR0.frozen 3
      have c4 := hR.cell (k := 4) (by simp)
      have z4 := hR0.cell (k := 4) (by simp)
      have f4 := hR0.frozen 4
      have c5 := hR.cell (k := 5) (by simp)
      have z5 := hR0.cell (k := 5) (by simp)
      have f5 := hR0.frozen 5
      have c6 := hR.cell (k := 6) (by simp)
      have z6 := hR0.cell (k := 6) (by simp)
      have f6 := hR0.frozen 6
      have c7 := hR.cell (k := 7) (by simp)
      have z7 := hR0.cell (k := 7) (by simp)
      have f7 := hR0.frozen 7
      have c8 := hR.cell (k := 8) (by simp)
      have z8 := hR0.cell (k := 8) (by simp)
      have f8 := hR0.frozen 8
      simp only [List.getD_cons_zero, List.getD_cons_succ] at c0 c1 c2 c3 c4 c5 c6 c7 c8
      simp [List.replicate] at z0 z1 z2 z3 z4 z5 z6 z7 z8
      have HB := Lib.hid hb
      clear hb hbs
      go_wp2
      refine bodyPost_ret (v := .agg #[.int .u8 (a0 : Int), .int .u8 (a1 : Int), .int .u8 (a2 : Int), .int .u8 (a3 : Int), .int .u8 (a4 : Int), .int .u8 (a5 : Int), .int .u8 (a6 : Int), .int .u8 (a7 : Int), .int .u8 (a8 : Int)]) (by simp [results, Tryd.results101, go_sem, z0, z1, z2, z3, z4, z5, z6, z7, z8]) rfl ⟨by rw [HB.out]; rfl, (((((((((hbel.setCell (by simp) _).setCell (by simp) _).setCell (by simp) _).setCell (by simp) _).setCell (by simp) _).setCell (by simp) _).setCell (by simp) _).setCell (by simp) _).setCell (by simp) _)⟩
    · obtain ⟨k, rfl⟩ : ∃ q, k = q + 1 := ⟨k - 1, by omega⟩
      have hlen : bs.length = 9 := by rw [hbs.out]; simp [low_len]; omega
      have hc := hR.cell (k := k) (by omega)
      have hf := hR.frozen k
      go_wp2
      have e1 : ((48 + m % 10 : Nat) : Int) = 48 + (m : Int) % 10 := by omega
      have e2 : ((m / 10 : Nat) : Int) = (m : Int) / 10 := by omega
      rw [← e1, ← e2]
      refine ⟨⟨j + 1, k, m / 10, bs.set k (48 + m % 10), by omega, rfl, rfl, by omega, ?_, hR.set k _, ?_, hR0.far (by simp) _, hbel.setCell (by simp) _⟩, by simp [intOf] <;> omega⟩
      · rw [Hid, hmn.out, Nat.div_div_eq_div_mul, Nat.pow_succ]
      · rw [Hid, hbs.out, hmn.out, low_set]
end Go.Proofs.YtnlmdjbakcjhbaaDoor
namespace Go.Proofs.YtnlmdjbakcjhbaaDoor
open Go.RowKit
theorem infoB : (Tryd.prog.info? 5).map (fun i => (i.zero, i.size, i.bytes)) = some (some (.int .u8 0), 1, 1) := by kernel_rfl
theorem make_u8 (n : Nat) (h : n ≤ 2000002) (W : World) : (Instr.makeSlice 80 (.int .i64 (n : Int)) (.int .i64 (n : Int))).run Tryd.prog W =
    .ok (.slice (some ⟨W.heap.size, 0, none⟩) n n) (W.alloc (.cells (madeCells #[.int .u8 0] n) 5)) := by
  obtain ⟨i0, hi, hz0, hz1, hz2⟩ := info_parts infoB
  have := run_make (P := Tryd.prog) W 80 5 i0 _ Tryd.underlying80 hi hz0 .i64 .i64 (n : Int) (n : Int) (by omega) (by omega) (by rw [hz2]; omega) (by omega)
  rw [hz1, Nat.mul_one, Int.toNat_natCast] at this
  exact this
theorem RowB.made (w : World) (n : Nat) : RowB (w.alloc (.cells (madeCells #[.int .u8 0] n) 5)) w.heap.size 5 (List.replicate n 0) := by
  unfold RowB
  rw [heap_alloc_new]
  congr 2
  rw [← Array.toList_inj, toList_madeCells_one]
  simp [byt]
theorem Row.pre {w : World} {g : Nat} {xs tl : List Nat} (h : Row w g (xs ++ tl)) (hl : Limbs xs) (c : Nat) (hc : xs.length ≤ c) (hc' : c ≤ 9223372036854775807) : Lim w w.heap.size (some ⟨g, 0, none⟩) xs.length c xs :=
  ⟨⟨hc, hc'⟩, rfl, hl, fun _ => ⟨_, rfl, h.lt, fun k hk => by
    rw [Addr.add_lit, Nat.zero_add]
    have := h.cell (k := k) (by rw [List.length_append]; omega)
    rwa [getD_left _ _ hk] at this⟩⟩
/-- The number that a row of characters stands for. -/
def decN (l : List Nat) : Nat := l.foldl (fun a c => 10 * a + (c - 48)) 0
theorem decN_from (l : List Nat) : ∀ a : Nat, l.foldl (fun a c => 10 * a + (c - 48)) a = a * 10 ^ l.length + decN l := by
  induction l with
  | nil => intro a; simp [decN]
  | cons x l ih =>
    intro a
    have h1 := ih (10 * a + (x - 48))
    have h2 := ih (10 * 0 + (x - 48))
    have h3 : decN (x :: l) = l.foldl (fun a c => 10 * a + (c - 48)) (10 * 0 + (x - 48)) := rfl
    rw [List.foldl_cons, h1, h3, h2, List.length_cons, Nat.pow_succ, Nat.add_mul, Nat.mul_zero, Nat.zero_add, Nat.mul_comm 10 a, Nat.mul_assoc, Nat.mul_comm 10, Nat.add_assoc]
theorem decN_append (l m : List Nat) : decN (l ++ m) = decN l * 10 ^ m.length + decN m := by
  rw [decN, List.foldl_append]
  exact decN_from m _
theorem decN_cons (x : Nat) (l : List Nat) : decN (x :: l) = (x - 48) * 10 ^ l.length + decN l := by
  have := decN_append [x] l
  simpa [decN] using this
theorem decN_low (n : Nat) : ∀ j, decN (low j n) = n % 10 ^ j
  | 0 => by simp [low, decN, Nat.mod_one]
  | j + 1 => by
    rw [low, decN_cons, low_len, decN_low n j, Nat.add_sub_cancel_left, Nat.pow_succ, Nat.mod_mul, Nat.mul_comm (10 ^ j), Nat.add_comm]
theorem low_dig (n : Nat) : ∀ j, ∀ b ∈ low j n, 48 ≤ b ∧ b ≤ 57
  | 0 => by simp [low]
  | j + 1 => by
    intro b hb
    rw [low, List.mem_cons] at hb
    rcases hb with rfl | hb
    · omega
    · exact low_dig n j b hb
theorem digs_room {u v n l : Nat} (hu : 0 < u) (hv : u * 10 ^ l ≤ v) (hn : (digs v).length = n) : l < 10 * n := by
  have h1 : v < 4294967296 ^ n := by rw [← hn]; exact lt_digs_len v
  have h2 : 4294967296 ^ n ≤ (10 ^ 10) ^ n := Nat.pow_le_pow_left (by decide) n
  rw [← Nat.pow_mul] at h2
  have h3 : 10 ^ l ≤ u * 10 ^ l := Nat.le_mul_of_pos_left _ hu
  exact (Nat.pow_lt_pow_iff_right (by decide : 1 < 10)).1 (by omega : 10 ^ l < 10 ^ (10 * n))
/-- A slice of characters comes back that stand for v. -/
def RetBytes (w : World) (v : Nat) (e : Ending) (w' : World) : Prop := ∃ g off L cap pad bs, e = .returned (.slice (some ⟨g, off, none⟩) L cap) ∧ RowB w' g 5 (pad ++ bs) ∧ pad.length = off ∧ bs.length = L ∧ (∀ b ∈ bs, 48 ≤ b ∧ b ≤ 57) ∧ decN bs = v ∧ L ≤ cap ∧ L ≤ 200000 ∧ Below w.heap.size w w'
set_option maxHeartbeats 4000000 in
theorem groups_any (A : Option Addr) (n c B v : Nat) (w : World) (ha : Lim w B A n c (digs v)) (hB : B ≤ w.heap.size) (hn : n ≤ 10000) (hv0 : 0 < v) :
    Calls Tryd.prog 67 #[.slice A n c] w (RetBytes w v) := by
  have HV0 := Lib.hid hv0
  clear hv0
  have hmk : ∀ W : World, (Instr.makeSlice 22 (.int .i64 (n : Int)) (.int .i64 (n : Int))).run Tryd.prog W =
    .ok (.slice (some ⟨W.heap.size, 0, none⟩) n n) (W.alloc (.cells (madeCells #[.int .u32 0] n) 67)) := fun W => make_u32 n (by omega) W
  have hmb : ∀ W : World, (Instr.makeSlice 80 (.int .i64 (10 * (n : Int) + 9)) (.int .i64 (10 * (n : Int) + 9))).run Tryd.prog W =
    .ok (.slice (some ⟨W.heap.size, 0, none⟩) (10 * n + 9) (10 * n + 9)) (W.alloc (.cells (madeCells #[.int .u8 0] (10 * n + 9)) 5)) := fun W => make_u8 (10 * n + 9) (by omega) W
  have hln := ha.len
  have HL := Lib.hid hln
  clear hln
  have R1 := Row.made w n
  obtain ⟨W1, hW1⟩ : ∃ W1, W1 = w.alloc (.cells (madeCells #[.int .u32 0] n) 67) := ⟨_, rfl⟩
  have B1 : Below w.heap.size w W1 := by rw [hW1]; exact (Below.refl _ _).alloc (Nat.le_refl _) _
  rw [← hW1] at R1
  have ha1 := ha.below (B1.mono hB)
  go_enter Tryd.func67, Tryd.ntmps67
  go_wp2_with (with_reducible refine wpList_copy_splice rfl (.tmp 10) (.tmp 11) 22 22 rfl 67 Tryd.underlying22 (by kernel_rfl) (some ⟨w.heap.size, 0, none⟩) A n n n c rfl rfl w.heap.size 0 (ints (List.replicate n 0)) 67 ?hg (ints (digs v)) ?hnn ?hpos ?hfit ?h1 w.heap.size w ?hb ?hBg ?h)
  case hg => rw [← hW1]; exact R1
  case hnn => rw [ints_len, HL.out]; exact (Nat.min_self n).symm
  case hpos =>
    intro h0
    rw [ints_len, HL.out] at h0
    obtain ⟨ad, rfl, _, hc⟩ := ha1.rd h0
    refine ⟨ad, rfl, fun j u hu => ?_⟩
    rcases Nat.lt_or_ge j n with hj | hj
    · rw [← hW1, hc j hj, ← hu, ints_get _ j (by rw [HL.out]; exact hj)]
    · rw [List.getElem?_eq_none (by rw [ints_len, HL.out]; exact hj)] at hu
      cases hu
  case hBg => exact Nat.le_refl _
  case hfit => rw [ints_len, ints_len, HL.out, List.length_replicate, Nat.zero_add]; exact Nat.le_refl _
  case h1 => exact ints_one _
  case hb => rw [← hW1]; exact B1
  case h =>
    intro W2 hg2 B2
    have R2 : Row W2 w.heap.size (digs v ++ []) := by
      have := hg2.out
      rw [splice, List.take_zero, List.nil_append, List.drop_of_length_le (by rw [ints_len, ints_len, HL.out, List.length_replicate]; omega), List.append_nil] at this
      rw [List.append_nil]; exact this
    have hlt := R2.lt
    have B3 := B2.alloc B2.size (.cells (madeCells #[.int .u8 0] (10 * n + 9)) 5)
    have R3 := R2.alloc (.cells (madeCells #[.int .u8 0] (10 * n + 9)) 5)
    have Q3 := RowB.made W2 (10 * n + 9)
    clear hg2 hW1 R1 B1 ha1 R2 B2
    go_wp2
    go_loopw [3, 5] (fun s3 s5 wr => ∃ (u m cc st : Nat) (tl pad bs : List Nat), s3 = .slice (some ⟨w.heap.size, 0, none⟩) m cc ∧ s5 = .int .i64 st ∧ Hid (m = (digs u).length) ∧ m ≤ n ∧ m ≤ cc ∧ cc ≤ 10000 ∧ Row wr w.heap.size (digs u ++ tl) ∧ RowB wr W2.heap.size 5 (pad ++ bs) ∧ Hid (pad.length = st) ∧ Hid (st + bs.length = 10 * n + 9) ∧ Hid (∀ b ∈ bs, 48 ≤ b ∧ b ≤ 57) ∧ Hid (v = u * 10 ^ bs.length + decN bs) ∧ Below w.heap.size w wr) (fun _ s _ => (intOf s).toNat)
    case atStart => exact ⟨v, n, n, 10 * n + 9, [], List.replicate (10 * n + 9) 0, [], rfl, by simp, HL.out.symm, Nat.le_refl _, Nat.le_refl _, hn, R3, by rw [List.append_nil]; exact Q3, by simp [Hid], by simp [Hid], by simp [Hid], by simp [Hid, decN], B3⟩
    case round =>
      obtain ⟨u, m, cc, st, tl, pad, bs, rfl, rfl, hm, hmn, hmc, hcc, hR, hQ, hpad, hst, hdg, hv, hbel⟩ := hrel
      rcases Nat.eq_zero_or_pos m with rfl | hm0
      · have hu : u = 0 := by
          have := hm.out
          exact digs_len_zero.1 this.symm
        have hsl : st ≤ 10 * n + 9 := by have := hst.out; omega
        have hst2 : bs.length = 10 * n + 9 - st := by have := hst.out; omega
        have hv2 := hv.out
        rw [hu, Nat.zero_mul, Nat.zero_add] at hv2
        have hst3 : st < 10 * n + 9 := by
          rcases Nat.lt_or_ge st (10 * n + 9) with h | h
          · exact h
          · have h2 : bs = [] := List.eq_nil_of_length_eq_zero (by omega)
            rw [h2] at hv2
            have := HV0.out
            rw [hv2] at this
            exact absurd this (by decide)
        have HS := Lib.hid hst2
        have HV2 := Lib.hid hv2
        clear hst2 hv2 hu
        go_wp2
        go_ret
        exact ⟨_, _, _, _, pad, bs, rfl, hQ, hpad.out, HS.out, hdg.out, HV2.out.symm, Nat.le_refl _, by omega, hbel⟩
      · have hu : 0 < u := by
          rcases Nat.eq_zero_or_pos u with h | h
          · have := hm.out
            rw [h, digs_zero] at this
            simp at this
            omega
          · exact h
        have hroom := digs_room (l := bs.length) hu (by have := hv.out; omega) HL.out
        have hst9 : 9 ≤ st ∧ st ≤ 10 * n + 9 := by have := hst.out; omega
        have HD := Lib.hid (divIn_any w.heap.size m cc 1000000000 (digs u) tl wr hR (limbs_digs u) hm.out.symm hmc (by omega) (by decide) (by decide))
        simp only [val_digs] at HD
        have hr := Nat.mod_lt u (show 0 < 1000000000 by decide)
        have hdm := Nat.div_add_mod u 1000000000
        have HQR : Hid (∃ q r, q = u / 1000000000 ∧ r = u % 1000000000) := ⟨_, _, rfl, rfl⟩
        go_wp2_with fail
        refine HD.out.mono ?_
        rintro e w4 ⟨ys, rfl, hR4, hL4, hl4, hv4, hg4⟩
        obtain ⟨r, hre⟩ : ∃ r, r = u % 1000000000 := ⟨_, rfl⟩
        obtain ⟨q, hqe⟩ : ∃ q, q = u / 1000000000 := ⟨_, rfl⟩
        rw [← hre] at hr hdm ⊢
        rw [← hqe] at hv4 hdm
        have HL4 := Lib.hid hl4
        have HV4 := Lib.hid hv4
        have HRE := Lib.hid hre
        have HDM := Lib.hid hdm
        clear hre hqe hdm hl4 hv4 HQR HD
        have hbel4 : Below w.heap.size w w4 := hbel.grown hg4 hbel.size (fun j hj => by cases hj; exact Nat.le_refl _)
        have hQ4 : RowB w4 W2.heap.size 5 (pad ++ bs) := (hg4.block _ hQ.lt (by intro h; have := Option.some.inj h; omega)).trans hQ
        have HG := Lib.hid (fun W => groupText_any r W (by omega))
        obtain ⟨a0, a1, a2, a3, a4, a5, a6, a7, a8, hb⟩ : ∃ a0 a1 a2 a3 a4 a5 a6 a7 a8, low 9 r = [a0, a1, a2, a3, a4, a5, a6, a7, a8] := ⟨_, _, _, _, _, _, _, _, _, rfl⟩
        have hG2 := HG.out
        rw [hb] at hG2
        have HG2 := Lib.hid hG2
        have HB := Lib.hid hb
        clear hG2 hb HG
        go_wp2_with fail
        refine (HG2.out _).mono ?_
        rintro e w5 ⟨rfl, hb5⟩
        have hbel5 := hbel4.trans (hb5.mono hbel4.size)
        have hR5 := hR4.below hb5 hR4.lt
        have hQ5 := hQ4.below hb5 hQ4.lt
        have hsz5 := hQ5.lt
        simp only [byt, List.map_cons, List.map_nil]
        obtain ⟨W6, hW6⟩ : ∃ W6, W6 = w5.alloc (.cells #[.int .u8 (a0 : Int), .int .u8 (a1 : Int), .int .u8 (a2 : Int), .int .u8 (a3 : Int), .int .u8 (a4 : Int), .int .u8 (a5 : Int), .int .u8 (a6 : Int), .int .u8 (a7 : Int), .int .u8 (a8 : Int)] 116) := ⟨_, rfl⟩
        have hbel6 : Below w.heap.size w W6 := by rw [hW6]; exact hbel5.alloc hbel5.size _
        have hR6 : Row W6 w.heap.size (ys ++ tl) := by rw [hW6]; exact hR5.alloc _
        have hQ6 : RowB W6 W2.heap.size 5 (pad ++ bs) := by rw [hW6]; exact hQ5.alloc _
        have hG6 : RowB W6 w5.heap.size 116 [a0, a1, a2, a3, a4, a5, a6, a7, a8] := by rw [hW6]; exact heap_alloc_new w5 _
        have hT := trim_any (some ⟨w.heap.size, 0, none⟩) m cc W6.heap.size ys W6 (by have := hR6.pre hL4 cc (by rw [HL4.out]; exact hmc) (by omega); rwa [HL4.out] at this)
        rw [HV4.out] at hT
        have HT := Lib.hid hT
        have hBlt := B3.size
        have hG9 : ∀ j u, (byt [a0, a1, a2, a3, a4, a5, a6, a7, a8])[j]? = some u → W6.cell? ((⟨w5.heap.size, 0, none⟩ : Addr).add j) = some u := by
          intro j u hu
          rcases Nat.lt_or_ge j 9 with h | h
          · rw [byt_get [a0, a1, a2, a3, a4, a5, a6, a7, a8] j h] at hu
            have := hG6.cell (k := j) h
            rw [Addr.add_lit, Nat.zero_add, this]; exact hu
          · rw [List.getElem?_eq_none (by rw [byt_len]; exact h)] at hu
            cases hu
        have HG9 := Lib.hid hG9
        obtain ⟨st, rfl⟩ : ∃ s, st = s + 9 := ⟨st - 9, by omega⟩
        have hs9 : 9 ≤ 10 * n + 9 - st := by omega
        have hfit : st + 9 ≤ pad.length + bs.length := by have := hpad.out; have := hst.out; omega
        have HF := Lib.hid hfit
        have HW6 := Lib.hid hW6
        clear hT hG9 hfit hW6
        go_wp2_with fail
        rw [← HW6.out]
        refine HT.out.mono ?_
        rintro e w6 ⟨rfl, rfl⟩
        have hle : (st : Int) ≤ 10 * n + 9 := by omega
        have hne : ¬ (10 * n + 9 = st) := by omega
        go_wp2_with fail
        go_region_law (refine step_copy_splice rfl (.tmp 32) (.tmp 33) 80 80 rfl 5 Tryd.underlying80 (by kernel_rfl) (some ⟨W2.heap.size, st, none⟩) (some ⟨w5.heap.size, 0, none⟩) (10 * n + 9 - st) (10 * n + 9 - st) 9 9 (by simp [Act.eval, Act.put]) (by simp [Act.eval, Act.put]) W2.heap.size st (byt (pad ++ bs)) 5 hQ6 (byt [a0, a1, a2, a3, a4, a5, a6, a7, a8]) (by rw [byt_len]; exact (Nat.min_eq_left hs9).symm) (fun _ => ⟨rfl, _, rfl, HG9.out⟩) (by rw [byt_len, byt_len, List.length_append]; exact HF.out) (byt_one _) W2.heap.size W6 (by first | exact Below.refl _ _ | exact Below.drewN' (Below.refl _ _) _ | exact (Below.refl _ _).drew) (Nat.le_refl _) ?_; intro w7 hg7 hb7)
        all_goals (
          have hbel7 : Below w.heap.size w w7 := hbel6.trans (hb7.mono (Nat.le_of_lt hlt))
          have hR7 : Row w7 w.heap.size (digs q ++ (ys.drop (digs q).length ++ tl)) := by
            have e := digs_eq_take hL4
            rw [HV4.out] at e
            have e2 : digs q ++ (ys.drop (digs q).length ++ tl) = ys ++ tl := by
              rw [← List.append_assoc]
              conv => lhs; arg 1; arg 1; rw [e]
              rw [List.take_append_drop]
            rw [e2]
            exact hR6.below hb7 hlt
          have hQ7 : RowB w7 W2.heap.size 5 (pad.take st ++ ([a0, a1, a2, a3, a4, a5, a6, a7, a8] ++ bs)) := by
            have h1 := hg7.out
            have h2 := hpad.out
            have e1 : splice (byt (pad ++ bs)) st (byt [a0, a1, a2, a3, a4, a5, a6, a7, a8]) = byt (pad.take st ++ ([a0, a1, a2, a3, a4, a5, a6, a7, a8] ++ bs)) := by
              rw [splice, byt_len, byt, byt, byt, ← List.map_take, ← List.map_drop, List.map_append, List.map_append, List.take_append_of_le_length (by omega), List.drop_append_of_le_length (by simp; omega), List.drop_of_length_le (by simp; omega), List.nil_append]
            rw [e1] at h1
            exact h1
          go_wp2
          have hmq : (digs q).length ≤ m := by
            have := digs_len_val hL4
            rwa [HV4.out, HL4.out] at this
          refine ⟨⟨q, (digs q).length, (digs q).length, st, ys.drop (digs q).length ++ tl, pad.take st, [a0, a1, a2, a3, a4, a5, a6, a7, a8] ++ bs, rfl, rfl, rfl, by omega, Nat.le_refl _, by omega, hR7, hQ7, ?_, ?_, ?_, ?_, hbel7⟩, by simp [intOf] <;> omega⟩
          · have := hpad.out
            rw [Hid, List.length_take]; omega
          · have := hst.out
            rw [Hid, List.length_append]; simp only [List.length_cons, List.length_nil]; omega
          · intro b hb
            rcases List.mem_append.1 hb with h | h
            · exact low_dig r 9 b (by rw [HB.out]; exact h)
            · exact hdg.out b h
          · have h1 := decN_low r 9
            rw [Nat.mod_eq_of_lt hr, HB.out] at h1
            have h2 : ([a0, a1, a2, a3, a4, a5, a6, a7, a8] ++ bs).length = 9 + bs.length := by rw [List.length_append]; rfl
            rw [Hid, decN_append, h1, h2, Nat.pow_add, ← Nat.add_assoc, ← Nat.mul_assoc, ← Nat.add_mul, hv.out, show q * 10 ^ 9 + r = u by have := HDM.out; omega])
end Go.Proofs.YtnlmdjbakcjhbaaDoor
namespace Go.Proofs.YtnlmdjbakcjhbaaDoor
open Go.RowKit
/-- All bytes are decimal digits. -/
def allDig (s : ByteArray) : Prop := ∀ j (h : j < s.size), 48 ≤ s[j].toNat ∧ s[j].toNat ≤ 57
/-- What the program calls a number: digits without a superfluous zero before them. -/
def numOk (s : ByteArray) : Prop := allDig s ∧ (s.toList = [48] ∨ ∃ h : 0 < s.size, s[0].toNat ≠ 48)
/-- A bool comes back that says whether p, and nothing turns. -/
def RetB (p : Prop) (w : World) (e : Ending) (w' : World) : Prop := ∃ b : Bool, e = .returned (.bool b) ∧ (b = true ↔ p) ∧ w = w'
theorem toL_len (s : ByteArray) : s.toList.length = s.size := by rw [ByteArray.toList_eq]; rfl
theorem toL_empty {s : ByteArray} (h : s.size = 0) : s.toList.isEmpty = true := by
  have := toL_len s; rw [h] at this; simp [List.eq_nil_of_length_eq_zero this]
theorem toL_some {s : ByteArray} (h : s.size ≠ 0) : s.toList.isEmpty = false := by
  have h1 := toL_len s
  cases h2 : s.toList with
  | nil => rw [h2] at h1; exact absurd h1.symm h
  | cons a l => rfl
set_option maxHeartbeats 1000000 in
theorem isNum_any (s : ByteArray) (w : World) (hs : s.size ≤ 2000) :
    Calls Tryd.prog 69 #[.string s] w fun e w' => RetB (numOk s) w e w' := by
  go_enter Tryd.func69, Tryd.ntmps69
  go_wp2
  go_loop [6] (fun i => ∃ k : Nat, k ≤ s.size ∧ i = .int .i64 k ∧ Hid (∀ j (h : j < s.size), j < k → 48 ≤ s[j].toNat ∧ s[j].toNat ≤ 57)) (fun i => s.size - (intOf i).toNat)
  case atStart => exact ⟨0, by omega, rfl, fun j h1 h2 => absurd h2 (by omega)⟩
  case round =>
    obtain ⟨k, hk, rfl, hI⟩ := hrel
    by_cases hlt : k < s.size
    · by_cases h1 : s[k].toNat < 48
      · go_wp2
        go_ret
        exact ⟨_, rfl, ⟨fun h => absurd h (by simp), fun h => absurd (h.1 k hlt).1 (by omega)⟩, rfl⟩
      · by_cases h2 : 57 < s[k].toNat
        · go_wp2
          go_ret
          exact ⟨_, rfl, ⟨fun h => absurd h (by simp), fun h => absurd (h.1 k hlt).2 (by omega)⟩, rfl⟩
        · go_wp2
          refine ⟨⟨k + 1, by omega, rfl, fun j ha hb => ?_⟩, ?_⟩
          · rcases Nat.lt_succ_iff_lt_or_eq.1 hb with hc | rfl
            · exact hI.out j ha hc
            · omega
          · show s.size - (((k : Int) + 1)).toNat < s.size - ((k : Int)).toNat
            omega
    · obtain rfl : k = s.size := by omega
      have HD : Hid (allDig s) := fun j hj => hI.out j hj hj
      clear hI
      by_cases h0 : s.size = 0
      · have q1 := toL_empty h0
        have q2 : (s.toList == [48]) = false := by
          have := toL_len s; rw [h0] at this; rw [List.eq_nil_of_length_eq_zero this]; rfl
        have q3 : Hid (¬ s.toList = [48]) := by intro h; rw [h] at q2; exact absurd q2 (by decide)
        go_wp2
        go_ret
        exact ⟨_, rfl, ⟨fun h => absurd h (by simp), fun h => by rcases h.2 with h | ⟨h, _⟩; exact absurd h q3.out; omega⟩, rfl⟩
      · have q1 := toL_some h0
        have h0' : 0 < s.size := by omega
        by_cases h48 : s.toList = [48]
        · have q2 : (s.toList == [48]) = true := by rw [h48]; rfl
          have q3 := Lib.hid h48
          clear h48
          go_wp2
          go_ret
          exact ⟨_, rfl, ⟨fun _ => ⟨HD.out, Or.inl q3.out⟩, fun _ => rfl⟩, rfl⟩
        · have q2 : (s.toList == [48]) = false := by simpa using h48
          have q3 := Lib.hid h48
          clear h48
          by_cases hz : s[0].toNat = 48
          · have q4 : (((s[0].toNat : Nat) : Int) != 48) = false := by rw [hz]; rfl
            have q5 := Lib.hid hz
            clear hz
            go_wp2
            go_ret
            exact ⟨_, rfl, ⟨fun h => absurd h (by simp), fun h => by rcases h.2 with h | ⟨h, h'⟩; exact absurd h q3.out; exact absurd q5.out h'⟩, rfl⟩
          · have q4 : (((s[0].toNat : Nat) : Int) != 48) = true := by simp; omega
            have q5 := Lib.hid hz
            clear hz
            go_wp2
            go_ret
            exact ⟨_, rfl, ⟨fun _ => ⟨HD.out, Or.inr ⟨h0', q5.out⟩⟩, fun _ => rfl⟩, rfl⟩
end Go.Proofs.YtnlmdjbakcjhbaaDoor
namespace Go.Proofs.YtnlmdjbakcjhbaaDoor
open Go.RowKit
/-- The number that a row of decimal digits stands for. -/
def dec (l : List UInt8) : Nat := l.foldl (fun n c => 10 * n + (c.toNat - 48)) 0
theorem dec_snoc (l : List UInt8) (c : UInt8) : dec (l ++ [c]) = 10 * dec l + (c.toNat - 48) := by simp [dec, List.foldl_append]
theorem toL_get (s : ByteArray) (k : Nat) (h : k < s.size) : s.toList[k]? = some s[k] := by
  rw [ByteArray.toList_eq, Array.getElem?_toList]
  exact Array.getElem?_eq_getElem h
theorem take_snoc (s : ByteArray) (k : Nat) (h : k < s.size) : s.toList.take (k + 1) = s.toList.take k ++ [s[k]] := by
  rw [List.take_add_one, toL_get s k h]; rfl
theorem dec_take (s : ByteArray) (k : Nat) (h : k < s.size) : dec (s.toList.take (k + 1)) = 10 * dec (s.toList.take k) + (s[k].toNat - 48) := by
  rw [take_snoc s k h, dec_snoc]
theorem dec_lt (s : ByteArray) (hd : allDig s) : ∀ k, k ≤ s.size → dec (s.toList.take k) < 10 ^ k
  | 0, _ => by simp [dec]
  | k + 1, h => by
    rw [dec_take s k h]
    have := dec_lt s hd k (by omega)
    have h2 := hd k h
    rw [Nat.pow_succ]
    omega
set_option maxHeartbeats 1000000 in
theorem groupValue_any (s : ByteArray) (w : World) (hs : s.size ≤ 9) (hd : allDig s) :
    Calls Tryd.prog 71 #[.string s] w fun e w' => e = .returned (.int .u32 ((dec s.toList : Nat) : Int)) ∧ w = w' := by
  have HL : Hid (∀ k, k ≤ s.size → dec (s.toList.take k) < 10 ^ k) := dec_lt s hd
  have HD := Lib.hid hd
  clear hd
  go_enter Tryd.func71, Tryd.ntmps71
  go_wp2
  go_loop [3, 7] (fun v i => ∃ k m : Nat, k ≤ s.size ∧ i = .int .i64 k ∧ v = .int .u32 m ∧ Hid (m = dec (s.toList.take k))) (fun _ i => s.size - (intOf i).toNat)
  case atStart => exact ⟨0, 0, by omega, rfl, rfl, by simp [Hid, dec]⟩
  case round =>
    obtain ⟨k, m, hk, rfl, rfl, hm⟩ := hrel
    by_cases hlt : k < s.size
    · have hdk := HD.out k hlt
      have hml : m < 100000000 := by
        have h1 := HL.out k hk
        rw [← hm.out] at h1
        have h2 : 10 ^ k ≤ 10 ^ 8 := Nat.pow_le_pow_right (by omega) (by omega)
        omega
      go_wp2
      refine ⟨⟨k + 1, 10 * m + (s[k].toNat - 48), by omega, rfl, by rw [show ((10 * m + (s[k].toNat - 48) : Nat) : Int) = 10 * (m : Int) + ((s[k].toNat : Int) - 48) by omega], ?_⟩, ?_⟩
      · rw [Hid, dec_take s k hlt, hm.out]
      · show s.size - (((k : Int) + 1)).toNat < s.size - ((k : Int)).toNat
        omega
    · obtain rfl : k = s.size := by omega
      go_wp2
      go_ret
      refine ⟨?_, rfl⟩
      have := hm.out
      rw [List.take_of_length_le (by rw [toL_len]; exact Nat.le_refl _)] at this
      rw [this]
      rfl
theorem Own.at_ {w : World} {base : Nat} {A : Option Addr} {n c : Nat} {xs : List Nat} (h : Own w base (.slice A n c) n xs) {k : Nat} (hk : k < n) :
    ∃ g, A = some ⟨g, 0, none⟩ ∧ base ≤ g ∧ g < w.heap.size ∧ n ≤ c ∧ w.cell? ⟨g, k, none⟩ = some (.int .u32 ((xs.getD k 0 : Nat) : Int)) ∧ w.frozen? ⟨g, k, none⟩ = false ∧
      ∀ x : Nat, Own (w.setCell ⟨g, k, none⟩ (.int .u32 (x : Int))) base (.slice A n c) n (xs.set k x) := by
  have hlen := h.len
  rcases h.2 with ⟨e, h0⟩ | ⟨g, cap, cur, e, hb, hg, hn, hm, hs, ht⟩
  · omega
  · cases e
    refine ⟨g, rfl, hb, (Array.getElem?_eq_some_iff.1 hg).1, hn, ?_, by simp [World.frozen?, hg], fun x => ⟨by rw [ints_len, List.length_set]; omega, .inr ⟨g, c, cur.set! k (.int .u32 (x : Int)), rfl, hb, ?_, hn, hm, by simpa using hs, ?_⟩⟩⟩
    · rw [cell_of_row w g k cur _ _ hg, ← ints_get xs k (by omega), ← ht, Nat.mul_one, List.getElem?_take, if_pos hk]
      simp
    · simp [World.setCell, Array.getElem?_modify, hg]
    · rw [Nat.mul_one] at ht ⊢
      rw [Array.set!_eq_setIfInBounds, Array.toList_setIfInBounds, List.take_set, ht]
      simp [ints, List.map_set]
theorem Own.block_ge {w : World} {base : Nat} {v : Value} {n : Nat} {xs : List Nat} (h : Own w base v n xs) {j : Nat} (hj : v.ownBlock = some j) : base ≤ j := by
  rcases h.2 with ⟨rfl, _⟩ | ⟨g, cap, cur, rfl, hb, _⟩
  · simp [Value.ownBlock] at hj
  · simp [Value.ownBlock] at hj; omega
set_option maxHeartbeats 1000000 in
theorem appendGroup_any (base : Nat) (A : Option Addr) (n c grp : Nat) (xs : List Nat) (w : World) (hO : Own w base (.slice A n c) n xs) (hL : Limbs xs) (hn : n ≤ 100000) (hg : grp < 4294967296) (hb : base ≤ w.heap.size) :
    Calls Tryd.prog 70 #[.slice A n c, .int .u32 (grp : Int)] w fun e w' => ∃ A' m c' ys, e = .returned (.slice A' m c') ∧ Own w' base (.slice A' m c') m ys ∧ Limbs ys ∧ val ys = val xs * 1000000000 + grp ∧ m ≤ n + 1 ∧ Below base w w' := by
  have HX := Lib.hid hO.len
  go_enter Tryd.func70, Tryd.ntmps70
  go_wp2
  go_loopw [5, 11] (fun cr i wr => ∃ (k q : Nat) (Y : List Nat), k ≤ n ∧ i = .int .i64 k ∧ cr = .int .u64 q ∧ q < 4294967296 ∧ Own wr base (.slice A n c) n Y ∧ Limbs Y ∧ Hid (Y.drop k = xs.drop k) ∧ Hid (val (Y.take k) + q * 4294967296 ^ k = val (xs.take k) * 1000000000 + grp) ∧ Below base w wr) (fun _ i _ => n - (intOf i).toNat)
  case atStart => exact ⟨0, grp, xs, by omega, rfl, rfl, hg, hO, hL, rfl, by simp [Hid, val], Below.refl _ _⟩
  case round =>
    obtain ⟨k, q, Y, hk, rfl, rfl, hq, hY, hLY, hd, hv, hbel⟩ := hrel
    have hYl := Lib.hid hY.len
    by_cases hkn : k < n
    · obtain ⟨g, rfl, hg0, hg1, hnc, hc, hf, hset⟩ := hY.at_ hkn
      obtain ⟨x, hx⟩ : ∃ x, x = Y.getD k 0 := ⟨_, rfl⟩
      have hxl : x < 4294967296 := by
        rw [hx, List.getD_eq_getElem?_getD, List.getElem?_eq_getElem (by rw [hYl.out]; omega)]
        exact hLY _ (List.getElem_mem _)
      rw [← hx] at hc
      have HXX := Lib.hid hx
      have HS := Lib.hid hset
      clear hx hset
      go_wp2
      have e1 : (((q + x * 1000000000) % 4294967296 : Nat) : Int) = ((q : Int) + x * 1000000000) % 4294967296 := by omega
      have e2 : (((q + x * 1000000000) / 4294967296 : Nat) : Int) = ((q : Int) + x * 1000000000) / 4294967296 := by omega
      rw [← e1, ← e2]
      refine ⟨⟨k + 1, (q + x * 1000000000) / 4294967296, Y.set k ((q + x * 1000000000) % 4294967296), by omega, rfl, rfl, by omega, HS.out _, limbs_set hLY _ (by omega), ?_, ?_, hbel.setCell hg0 _⟩, ?_⟩
      · have := hd.out
        rw [Hid, List.drop_set_of_lt (by omega)]
        rw [← List.drop_drop, this, List.drop_drop]
      · have hxx : x = xs.getD k 0 := by
          have h1 := congrArg (fun l => l.getD 0 0) hd.out
          simp only [getD_drop] at h1
          rw [HXX.out]; exact h1
        have h3 := hv.out
        have h4 := Nat.div_add_mod (q + x * 1000000000) 4294967296
        generalize (q + x * 1000000000) / 4294967296 = u at *
        generalize (q + x * 1000000000) % 4294967296 = v at *
        rw [Hid, val_set_take Y k v (by rw [hYl.out]; omega), val_take_succ xs, ← hxx, Nat.pow_succ, Nat.add_mul, ← Nat.mul_assoc u, Nat.mul_right_comm u, Nat.mul_comm (4294967296 ^ k) v, Nat.mul_comm (4294967296 ^ k) x, Nat.mul_right_comm x]
        rw [Nat.mul_comm u] at *
        have h5 : (4294967296 * u + v) * 4294967296 ^ k = (q + x * 1000000000) * 4294967296 ^ k := by rw [h4]
        rw [Nat.add_mul, Nat.add_mul] at h5
        omega
      · show n - ((k : Int) + 1).toNat < n - ((k : Int)).toNat
        omega
    · obtain rfl : k = n := by omega
      have hxs : Hid (val Y + q * 4294967296 ^ k = val xs * 1000000000 + grp) := by
        have := hv.out
        rwa [List.take_of_length_le (by rw [hYl.out]; exact Nat.le_refl _), List.take_of_length_le (by rw [HX.out]; exact Nat.le_refl _)] at this
      rcases Nat.eq_zero_or_pos q with rfl | hq0
      · go_wp2
        go_ret
        refine ⟨A, k, c, Y, rfl, hY, hLY, ?_, by omega, hbel⟩
        have := hxs.out
        omega
      · have hB := hbel.size
        have hB2 := Nat.le_trans hb hB
        have hY2 : Own (wr.alloc (.cells #[.int .u32 (q : Int)] 67)) base (.slice A k c) k Y := hY.keep ((Below.refl _ _).alloc (Nat.le_refl _) _)
        have hR : Lim (wr.alloc (.cells #[.int .u32 (q : Int)] 67)) (wr.heap.size + 1) (some ⟨wr.heap.size, 0, none⟩) 1 1 [q] := by
          have := (row_new wr [q] _ rfl).len_lim (by intro z hz; simp at hz; omega) 1 rfl (by omega)
          rwa [World.size_alloc] at this
        go_wp2_with (at_builtin; refine wpList_append_lim _ rfl (.tmp 32) (.tmp 35) rfl base (.slice A k c) k Y rfl ?h1 ?h2 (wr.heap.size + 1) (some ⟨wr.heap.size, 0, none⟩) 1 1 [q] rfl ?h3 ?h4 ?h5 ?h6)
        case h1 => exact hY2
        case h2 => exact hLY
        case h3 => exact hR
        case h4 => omega
        case h5 => rw [World.size_alloc]; omega
        case h6 =>
          intro A' c' w1 hl ho hg2
          have B1 : Below base w w1 := (hbel.alloc hB2 _).grown hg2 (by rw [World.size_alloc]; omega) (fun j hj => hY.block_ge hj)
          go_wp2
          go_ret
          refine ⟨A', k + 1, c', Y ++ [q], rfl, ho, ?_, ?_, Nat.le_refl _, B1⟩
          · intro z hz
            rcases List.mem_append.1 hz with e | e
            · exact hLY z e
            · simp at e; omega
          · have := hxs.out
            rw [val_append, hYl.out, Nat.mul_comm]
            simpa [val] using this
end Go.Proofs.YtnlmdjbakcjhbaaDoor
namespace Go.Proofs.YtnlmdjbakcjhbaaDoor
open Go.Shelf
def lays161_ren : Go.Shelf.Ren := ⟨fun | 161 => 66 | 231 => 97 | 227 => 98 | 233 => 99 | 235 => 100 | 228 => 116 | 197 => 117 | 151 => 118 | 260 => 129 | 152 => 130 | 137 => 131 | 119 => 132 | 224 => 133 | 225 => 134 | 217 => 135 | 266 => 136 | n => n, fun | 9 => 9 | 4 => 4 | 3 => 3 | 5 => 5 | 117 => 112 | 116 => 111 | 0 => 0 | 124 => 115 | 105 => 129 | 21 => 21 | 119 => 140 | 46 => 89 | 139 => 143 | 138 => 142 | n => n, fun | 3 => 2 | 4 => 3 | n => n⟩
theorem lays161 : Go.Proofs.Lays.n161 Tryd.prog lays161_ren := {
  mixed := by kernel_rfl
  f119 := Tryd.func132.trans (congrArg some (by kernel_rfl))
  f137 := Tryd.func131.trans (congrArg some (by kernel_rfl))
  f151 := Tryd.func118.trans (congrArg some (by kernel_rfl))
  f152 := Tryd.func130.trans (congrArg some (by kernel_rfl))
  f161 := Tryd.func66.trans (congrArg some (by kernel_rfl))
  f197 := Tryd.func117.trans (congrArg some (by kernel_rfl))
  f217 := Tryd.func135.trans (congrArg some (by kernel_rfl))
  f224 := Tryd.func133.trans (congrArg some (by kernel_rfl))
  f225 := Tryd.func134.trans (congrArg some (by kernel_rfl))
  f227 := Tryd.func98.trans (congrArg some (by kernel_rfl))
  f228 := Tryd.func116.trans (congrArg some (by kernel_rfl))
  f231 := Tryd.func97.trans (congrArg some (by kernel_rfl))
  f233 := Tryd.func99.trans (congrArg some (by kernel_rfl))
  f235 := Tryd.func100.trans (congrArg some (by kernel_rfl))
  f260 := Tryd.func129.trans (congrArg some (by kernel_rfl))
  f266 := Tryd.func136.trans (congrArg some (by kernel_rfl))
  t0 := Tryd.underlying0
  a0 := Tryd.isAgg0
  z0 := Tryd.sizeOf0
  v0 := Tryd.zeroValue0
  t3 := Tryd.underlying3
  a3 := Tryd.isAgg3
  z3 := Tryd.sizeOf3
  v3 := Tryd.zeroValue3
  t4 := Tryd.underlying4
  a4 := Tryd.isAgg4
  z4 := Tryd.sizeOf4
  v4 := Tryd.zeroValue4
  t5 := Tryd.underlying5
  a5 := Tryd.isAgg5
  z5 := Tryd.sizeOf5
  v5 := Tryd.zeroValue5
  t9 := Tryd.underlying9
  a9 := Tryd.isAgg9
  z9 := Tryd.sizeOf9
  v9 := Tryd.zeroValue9
  t21 := Tryd.underlying21
  a21 := Tryd.isAgg21
  z21 := Tryd.sizeOf21
  v21 := Tryd.zeroValue21
  t46 := Tryd.underlying89
  a46 := Tryd.isAgg89
  z46 := Tryd.sizeOf89
  v46 := Tryd.zeroValue89
  t105 := Tryd.underlying129
  a105 := Tryd.isAgg129
  z105 := Tryd.sizeOf129
  v105 := Tryd.zeroValue129
  t116 := Tryd.underlying111
  a116 := Tryd.isAgg111
  z116 := Tryd.sizeOf111
  t117 := Tryd.underlying112
  a117 := Tryd.isAgg112
  z117 := Tryd.sizeOf112
  v117 := Tryd.zeroValue112
  t119 := Tryd.underlying140
  a119 := Tryd.isAgg140
  z119 := Tryd.sizeOf140
  t124 := Tryd.underlying115
  a124 := Tryd.isAgg115
  z124 := Tryd.sizeOf115
  v124 := Tryd.zeroValue115
  t138 := Tryd.underlying142
  a138 := Tryd.isAgg142
  z138 := Tryd.sizeOf142
  v138 := Tryd.zeroValue142
  t139 := Tryd.underlying143
  a139 := Tryd.isAgg143
  z139 := Tryd.sizeOf143
  v139 := Tryd.zeroValue143
  g3 := by kernel_rfl
  g4 := by kernel_rfl }
open Go.RowKit in
theorem strings_TrimLeft_one (s : ByteArray) (c : UInt8) (hc : c.toNat < 128) (w : World) :
    Calls Tryd.prog 66 #[.string s, .string ⟨#[c]⟩] w fun e w' => e = .returned (.string ⟨(Lib.trimLeftB s.data.toList c).toArray⟩) ∧ w' = w := Any.strings_TrimLeft_one lays161 s c hc w
def lays103_ren : Go.Shelf.Ren := ⟨fun | 103 => 68 | 210 => 102 | 206 => 119 | n => n, fun | 9 => 9 | 4 => 4 | 24 => 82 | 3 => 3 | n => n, fun | n => n⟩
theorem lays103 : Go.Proofs.Lays.n103 Tryd.prog lays103_ren := {
  mixed := by kernel_rfl
  f103 := Tryd.func68.trans (congrArg some (by kernel_rfl))
  f206 := Tryd.func119.trans (congrArg some (by kernel_rfl))
  f210 := Tryd.func102.trans (congrArg some (by kernel_rfl))
  t3 := Tryd.underlying3
  a3 := Tryd.isAgg3
  z3 := Tryd.sizeOf3
  v3 := Tryd.zeroValue3
  t4 := Tryd.underlying4
  a4 := Tryd.isAgg4
  z4 := Tryd.sizeOf4
  v4 := Tryd.zeroValue4
  t9 := Tryd.underlying9
  a9 := Tryd.isAgg9
  z9 := Tryd.sizeOf9
  v9 := Tryd.zeroValue9
  t24 := Tryd.underlying82
  a24 := Tryd.isAgg82
  z24 := Tryd.sizeOf82
  v24 := Tryd.zeroValue82 }
open Go.RowKit in
theorem strings_CutPrefix (s p : ByteArray) (w : World) :
    Calls Tryd.prog 68 #[.string s, .string p] w fun e w' => e = .returned (.tuple #[.string ⟨(Lib.trimPrefix s.data.toList p.data.toList).toArray⟩, .bool (Lib.hasPrefix s.data.toList p.data.toList)]) ∧ w' = w := Any.strings_CutPrefix lays103 s p w
end Go.Proofs.YtnlmdjbakcjhbaaDoor
namespace Go.Proofs.YtnlmdjbakcjhbaaDoor
open Go.RowKit
set_option maxHeartbeats 400000 in
theorem pow2_any (n : Nat) (w : World) (hn : n ≤ 32000000) :
    Calls Tryd.prog 89 #[.int .i64 (n : Int)] w fun e w' => ∃ zs, RetSl w zs e w' ∧ val zs = 2 ^ n ∧ zs.length = n / 32 + 1 := by
  obtain ⟨q, hq⟩ : ∃ q, q = n / 32 := ⟨_, rfl⟩
  obtain ⟨r, hr⟩ : ∃ r, r = n % 32 := ⟨_, rfl⟩
  have hrl : r < 32 := by omega
  have hql : q ≤ 1000000 := by omega
  have e1 : (n : Int) / 32 = (q : Int) := by omega
  have e2 : (n : Int) % 32 = (r : Int) := by omega
  have HN : Hid (n = 32 * q + r) := by rw [Hid]; omega
  clear hq hr
  have hmk : ∀ W : World, (Instr.makeSlice 22 (.int .i64 ((q : Int) + 1)) (.int .i64 ((q : Int) + 1))).run Tryd.prog W =
    .ok (.slice (some ⟨W.heap.size, 0, none⟩) (q + 1) (q + 1)) (W.alloc (.cells (madeCells #[.int .u32 0] (q + 1)) 67)) := fun W => make_u32 (q + 1) (by omega) W
  have hR := Row.made w (q + 1)
  have hc := hR.cell (k := q) (by simp)
  have hf := hR.frozen q
  go_enter Tryd.func89, Tryd.ntmps89
  go_wp2
  go_ret
  have hxl : (2 : Nat) ^ r < 4294967296 := by
    have h1 : (2 : Nat) ^ r < 2 ^ 32 := Nat.pow_lt_pow_right (by omega) hrl
    exact Nat.lt_of_lt_of_le h1 (by decide)
  have hx : (2 : Int) ^ r % 4294967296 = ((2 ^ r : Nat) : Int) := by
    have h2 : ((2 ^ r : Nat) : Int) = (2 : Int) ^ r := Int.natCast_pow 2 r
    rw [← h2]
    exact Int.emod_eq_of_lt (Int.natCast_nonneg _) (Int.ofNat_lt.2 hxl)
  rw [hx]
  have hR2 : Row (w.alloc (.cells ((madeCells #[.int .u32 0] (q + 1)).setIfInBounds q (.int .u32 ((2 ^ r : Nat) : Int))) 67)) w.heap.size ((List.replicate (q + 1) 0).set q (2 ^ r)) := by
    apply row_new
    rw [← Array.toList_inj, Array.toList_setIfInBounds, toList_madeCells_one]
    simp [ints, List.map_set]
  have hlen : ((List.replicate (q + 1) 0).set q (2 ^ r)).length = q + 1 := by simp
  refine ⟨_, ⟨_, _, _, rfl, hR2.len_lim (limbs_set (limbs_zeros _) _ hxl) (q + 1) hlen (by omega), (Below.refl _ _).alloc (Nat.le_refl _) _⟩, ?_, ?_⟩
  · have h1 := val_set (List.replicate (q + 1) 0) q (2 ^ r) (by simp)
    rw [val_zeros] at h1
    have h2 : (List.replicate (q + 1) 0).getD q 0 = 0 := by
      rw [List.getD_eq_getElem?_getD, List.getElem?_replicate]
      split <;> rfl
    rw [h2] at h1
    have h3 : (4294967296 : Nat) ^ q = 2 ^ (32 * q) := by rw [Nat.pow_mul]
    rw [HN.out, Nat.pow_add, ← h3]
    omega
  · rw [hlen, HN.out]; omega
end Go.Proofs.YtnlmdjbakcjhbaaDoor
namespace Go.Proofs.YtnlmdjbakcjhbaaDoor
open Go.RowKit
set_option maxHeartbeats 1000000 in
theorem shiftDown_any (A : Option Addr) (n c B s : Nat) (xs : List Nat) (w : World) (ha : Lim w B A n c xs) (hB : B ≤ w.heap.size) (hn : n ≤ 1000000) (hs : s < 32) :
    Calls Tryd.prog 90 #[.slice A n c, .int .i64 (s : Int)] w fun e w' => ∃ zs, RetSl w zs e w' ∧ val zs = val xs / 2 ^ s ∧ zs.length = n := by
  have hmk := fun W => make_u32 n (by omega) W
  go_enter Tryd.func90, Tryd.ntmps90
  go_wp2
  go_loopw [6, 7] (fun hi i wr => ∃ k : Int, ∃ h : Nat, ∃ R : List Nat, -1 ≤ k ∧ k < n ∧ i = .int .i64 k ∧ hi = .int .u64 h ∧ h < 18446744073709551616 ∧ Row wr w.heap.size R ∧ Limbs R ∧ Hid (R.length = n) ∧ Hid (h % 4294967296 = xs.getD (k + 1).toNat 0) ∧
    Hid (val (R.drop (k + 1).toNat) = val (xs.drop (k + 1).toNat) / 2 ^ s) ∧ Below w.heap.size w wr) (fun _ i _ => (intOf i + 1).toNat)
  case atStart =>
    refine ⟨n - 1, 0, _, by omega, by omega, rfl, rfl, by omega, Row.made w n, limbs_zeros _, by simp [Hid], ?_, ?_, (Below.refl _ _).alloc (Nat.le_refl _) _⟩
    · rw [Hid, show ((n : Int) - 1 + 1).toNat = n by omega, List.getD_eq_getElem?_getD, List.getElem?_eq_none (by rw [ha.len]; exact Nat.le_refl _)]; rfl
    · rw [Hid, show ((n : Int) - 1 + 1).toNat = n by omega, List.drop_of_length_le (by simp), List.drop_of_length_le (by rw [ha.len]; exact Nat.le_refl _)]; simp [val]
  case round =>
    obtain ⟨k, h, R, hk, hkn, rfl, rfl, hh, hR, hL, hlen, hm, hv, hbel⟩ := hrel
    by_cases h0 : 0 ≤ k
    · obtain ⟨k, rfl⟩ := Int.eq_ofNat_of_zero_le h0
      have hkn' : k < n := by omega
      obtain ⟨ad, rfl, _, x, hx, hxl, hcx⟩ := (ha.below (hbel.mono hB)).at_ hkn'
      have hcr := hR.cell (k := k) (by rw [hlen.out]; omega)
      have hfr := hR.frozen k
      go_wp2
      have e1 : bits BinOp.or IntKind.u64 (IntKind.u64.wrap ((h : Int) * 4294967296)) (x : Int) = ((x + 4294967296 * (h % 4294967296) : Nat) : Int) := by
        have e0 : IntKind.u64.wrap ((h : Int) * 4294967296) = ((h % 4294967296 : Nat) : Int) * 4294967296 := by rw [IntKind.wrap_u64]; omega
        rw [e0]; exact or_limbs x (h % 4294967296) hxl (Nat.mod_lt _ (by omega))
      rw [e1]
      have hml := Nat.mod_lt h (show 0 < 4294967296 by omega)
      have e2 : ((((x + 4294967296 * (h % 4294967296)) / 2 ^ s) % 4294967296 : Nat) : Int) = ((x + 4294967296 * (h % 4294967296) : Nat) : Int) / 2 ^ s % 4294967296 := by rw [Int.natCast_emod, Int.natCast_ediv, Int.natCast_pow]; rfl
      refine ⟨⟨(k : Int) - 1, x + 4294967296 * (h % 4294967296), R.set k (((x + 4294967296 * (h % 4294967296)) / 2 ^ s) % 4294967296), by omega, by omega, rfl, rfl, by omega, ?_, limbs_set hL _ (Nat.mod_lt _ (by omega)), by rw [Hid, List.length_set]; exact hlen.out, ?_, ?_, hbel.setCell (by simp) _⟩, by show ((k : Int) - 1 + 1).toNat < ((k : Int) + 1).toNat; omega⟩
      · rw [← e2]; exact hR.set _ _
      · rw [Hid, show ((k : Int) - 1 + 1).toNat = k by omega, ← hx.out]; omega
      · rw [Hid, show ((k : Int) - 1 + 1).toNat = k by omega]
        have hm1 := hm.out
        have hv1 := hv.out
        rw [show ((k : Int) + 1).toNat = k + 1 by omega] at hm1 hv1
        have hp : (2 : Nat) ^ 32 = 2 ^ s * 2 ^ (32 - s) := by rw [← Nat.pow_add]; congr 1; omega
        have hmod := val_mod (limbs_drop ha.lt (k + 1))
        rw [getD_drop, Nat.add_zero] at hmod
        rw [val_set_drop (by rw [hlen.out]; omega), val_drop_cons (xs := xs) (k := k) (by rw [ha.len]; omega), hv1, ← hx.out]
        rw [shift_step x (val (xs.drop (k + 1))) (h % 4294967296) (2 ^ s) (2 ^ (32 - s)) (by rw [← hp]) (Nat.two_pow_pos s) hxl (by rw [hm1, hmod])]
    · obtain rfl : k = -1 := by omega
      go_wp2
      go_ret
      have hv1 := hv.out
      exact ⟨R, ⟨_, _, _, rfl, hR.len_lim hL n hlen.out (by omega), hbel⟩, hv1, hlen.out⟩
end Go.Proofs.YtnlmdjbakcjhbaaDoor
namespace Go.Proofs.YtnlmdjbakcjhbaaDoor
open Go.RowKit
set_option maxHeartbeats 400000 in
theorem less_any (A A' : Option Addr) (n c m d B B' : Nat) (xs ys : List Nat) (w : World) (ha : Lim w B A n c xs) (hb : Lim w B' A' m d ys) :
    Calls Tryd.prog 61 #[.slice A n c, .slice A' m d] w fun e w' => e = .returned (.bool (lessV xs ys)) ∧ Drawn w w' := by
  have hn := ha.cap
  have hm := hb.cap
  have hn' : n ≤ 9223372036854775807 := by omega
  have hm' : m ≤ 9223372036854775807 := by omega
  clear hn hm
  by_cases hnm : n = m
  · subst hnm
    have HL : Hid (xs.length = n ∧ ys.length = n) := ⟨ha.len, hb.len⟩
    have hLx : Limbs xs := ha.lt
    have hLy : Limbs ys := hb.lt
    go_enter Tryd.func61, Tryd.ntmps61
    go_wp2
    go_loopw [5] (fun i wr => ∃ k : Int, -1 ≤ k ∧ k < n ∧ i = .int .i64 k ∧ Hid (∀ j : Nat, k < j → j < n → xs.getD j 0 = ys.getD j 0) ∧ Drawn w wr) (fun i _ => (intOf i + 1).toNat)
    case atStart => exact ⟨n - 1, by omega, by omega, rfl, fun j h1 h2 => absurd h1 (by omega), Drawn.refl w⟩
    case round =>
      obtain ⟨k, hk, hkn, rfl, hgt, hd⟩ := hrel
      by_cases h0 : 0 ≤ k
      · obtain ⟨k, rfl⟩ := Int.eq_ofNat_of_zero_le h0
        have hkn' : k < n := by omega
        obtain ⟨ad, rfl, _, x, hx, hxl, hcx⟩ := (ha.drawn hd).at_ hkn'
        obtain ⟨ad', rfl, _, y, hy, hyl, hcy⟩ := (hb.drawn hd).at_ hkn'
        by_cases hxy : x = y
        · have hb1 : ((x : Int) != y) = false := by simp [hxy]
          have HXY := Lib.hid hxy
          clear hxy
          go_wp2
          go_quiet (fail)
          go_wp2
          go_roundw
          case rel =>
            refine ⟨k - 1, by omega, by omega, rfl, fun j h1 h2 => ?_, hd.drewN _⟩
            rcases Nat.eq_or_lt_of_le (show k ≤ j by omega) with e | e
            · subst e; rw [← hx.out, ← hy.out, HXY.out]
            · exact hgt.out j (by omega) h2
          case measure => simp [intOf] <;> omega
        · have hb1 : ((x : Int) != y) = true := by simp; omega
          have hb2 := Lib.hid hxy
          clear hxy
          go_wp2
          go_quiet (fail)
          go_wp2
          go_quiet (fail)
          go_wp2
          go_ret
          refine ⟨retB ?_, (hd.drewN _).drewN _⟩
          rw [lessV_at hLx hLy (by rw [HL.out.1, HL.out.2]) k (by rw [HL.out.1]; omega) (fun j h1 h2 => hgt.out j (by omega) (by rw [HL.out.1] at h2; exact h2)) (by rw [← hx.out, ← hy.out]; exact hb2.out)]
          rw [← hx.out, ← hy.out]
          try (first | rfl | (congr 1; simp))
      · obtain rfl : k = -1 := by omega
        go_wp2
        go_ret
        refine ⟨retB ?_, hd⟩
        rw [lessV_eq (by rw [HL.out.1, HL.out.2]) (fun j h1 => hgt.out j (by omega) (by rw [HL.out.1] at h1; exact h1))]
  · have hv : lessV xs ys = decide (n < m) := by unfold lessV; rw [ha.len, hb.len, if_neg hnm]
    have HV := Lib.hid hv
    clear hv ha hb
    go_enter Tryd.func61, Tryd.ntmps61
    go_wp2
    go_ret
    refine ⟨retB ?_, Drawn.refl _⟩
    rw [HV.out]

set_option maxHeartbeats 400000 in
theorem same_any (neg neg' : Bool) (A A' : Option Addr) (n c m d : Nat) (a b : Int) (w : World) (ha : IsInt w neg A n c a) (hb : IsInt w neg' A' m d b) :
    Calls Tryd.prog 13 #[.agg #[.bool neg, .slice A n c], .agg #[.bool neg', .slice A' m d]] w fun e w' => e = .returned (.bool (decide (a = b))) ∧ Below w.heap.size w w' := by
  have L1 := fun W (hW : Below w.heap.size w W) => less_any A A' n c m d _ _ _ _ W (ha.lim.below hW) (hb.lim.below hW)
  have L2 := fun W (hW : Below w.heap.size w W) => less_any A' A m d n c _ _ _ _ W (hb.lim.below hW) (ha.lim.below hW)
  rw [lessV_digs] at L1 L2
  have hs := ha.sign
  have hs' := hb.sign
  have L1' := Lib.hid L1
  have L2' := Lib.hid L2
  have HS := Lib.hid hs
  have HS' := Lib.hid hs'
  clear L1 L2 ha hb hs hs'
  by_cases hn : neg = neg'
  · subst hn
    have HB := ((Below.refl w.heap.size w).alloc (Nat.le_refl _) (.cells #[.bool neg, .slice A n c] 27)).alloc (by simp) (.cells #[.bool neg, .slice A' m d] 27)
    by_cases h1 : a.natAbs < b.natAbs
    · rw [decide_eq_true h1] at L1'
      have e : decide (a = b) = false := decide_eq_false (by omega)
      rw [e]
      clear e h1 L2'
      go_enter Tryd.func13, Tryd.ntmps13
      go_wp2_with fail
      refine (L1'.out _ HB).mono ?_
      rintro e w1 ⟨rfl, hd1⟩
      go_wp2
      go_ret
      exact ⟨rfl, HB.trans (hd1.below _)⟩
    · rw [decide_eq_false h1] at L1'
      have e : decide (a = b) = !decide (b.natAbs < a.natAbs) := by
        have e1 := HS.out
        have e2 := HS'.out
        rw [e1] at e2
        by_cases h2 : b.natAbs < a.natAbs
        · rw [decide_eq_true h2, decide_eq_false (by omega)]; rfl
        · have : (a < 0) ↔ (b < 0) := by simpa using e2
          rw [decide_eq_false h2, decide_eq_true (by omega)]; rfl
      rw [e]
      generalize decide (b.natAbs < a.natAbs) = t at *
      clear e h1
      go_enter Tryd.func13, Tryd.ntmps13
      go_wp2_with fail
      refine (L1'.out _ HB).mono ?_
      rintro e w1 ⟨rfl, hd1⟩
      have hb1 := hd1.below (w.heap.size + 1 + 1)
      obtain ⟨hc1, _⟩ := bcell hb1
      go_wp2_with fail
      refine (L2'.out _ (HB.trans (hd1.below _))).mono ?_
      rintro e w2 ⟨rfl, hd2⟩
      go_wp2
      go_ret
      exact ⟨rfl, (HB.trans (hd1.below _)).trans (hd2.below _)⟩
  · have e : decide (a = b) = false := by
      refine decide_eq_false fun h => hn ?_
      rw [HS.out, HS'.out, h]
    have hb1 : (neg == neg') = false := by simpa using hn
    rw [e]
    clear e hn
    go_enter Tryd.func13, Tryd.ntmps13
    go_wp2
    go_ret
    exact ⟨rfl, ((Below.refl _ _).alloc (Nat.le_refl _) _).alloc (by simp) _⟩
end Go.Proofs.YtnlmdjbakcjhbaaDoor
