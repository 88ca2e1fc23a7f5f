/- Contract of integer.DivMod, from a contract of divide at the same sizes. Contract of integer.divide for numbers of at most two limbs. Contract of integer.Read. Contract of integer.Text. Contract of integer.Read at texts that it accepts. -/
import Derived.Test.YtclmenpclkmfeaaDoorVAdd
import Derived.Test.YtclmenpclkmfeaaDoorVG2Prod
import Derived.Test.YtclmenpclkmfeaaDoorVG1CrtMap
import Derived.Deep.DeepCutAuto
import Derived.Test.YtclmenpclkmfeaaDoorVG0Words
import Derived.Test.YtclmenpclkmfeaaDoorVG4DlOnce
import Derived.Test.YtclmenpclkmfeaaDoorVG7AddB
import Derived.Test.YtclmenpclkmfeaaDoorVG5MadeL
import Derived.Laws.IdiomStrings
namespace Go.Proofs.YtclmenpclkmfeaaDoor
open Go.RowKit
/-- What divide leaves: a quotient and a remainder. -/
def DivRes (w : World) (q r : Nat) (e : Ending) (w' : World) : Prop := ∃ A1 n1 c1 xs A2 n2 c2 ys, e = .returned (.tuple #[.slice A1 n1 c1, .slice A2 n2 c2]) ∧ Lim w' w'.heap.size A1 n1 c1 xs ∧ Lim w' w'.heap.size A2 n2 c2 ys ∧ val xs = q ∧ val ys = r ∧ n1 ≤ 1000000 ∧ Below w.heap.size w w'
/-- The world behind 'a, b = tidy(a), tidy(b)'. -/
def Tid (w wx : World) (x0 x1 y0 y1 : Value) : Prop := Below w.heap.size w wx ∧ Slot2 wx w.heap.size x0 x1 ∧ Slot2 wx (w.heap.size + 1) y0 y1 ∧ Slot2 wx (w.heap.size + 1 + 1) (.bool false) (.slice none 0 0) ∧ Slot2 wx (w.heap.size + 1 + 1 + 1) (.bool false) (.slice none 0 0)
theorem frame22 (w : World) (a0 a1 b0 b1 : Value) :
    Tid w ((((w.alloc (.cells #[a0, a1] 28)).alloc (.cells #[b0, b1] 28)).alloc (.cells #[.bool false, .slice none 0 0] 28)).alloc (.cells #[.bool false, .slice none 0 0] 28)) a0 a1 b0 b1 := by
  obtain ⟨HB, P0, Q0, R0⟩ := frame21 w a0 a1 b0 b1
  have h := Slot2.new (((w.alloc (.cells #[a0, a1] 28)).alloc (.cells #[b0, b1] 28)).alloc (.cells #[.bool false, .slice none 0 0] 28)) (.bool false) (.slice none 0 0) 28
  rw [World.size_alloc, World.size_alloc, World.size_alloc] at h
  exact ⟨HB.alloc HB.size _, P0.alloc _, Q0.alloc _, R0.alloc _, h⟩
/-- A quotient and a remainder come back as integers. -/
def RetDM (w : World) (q r : Int) (e : Ending) (w' : World) : Prop := ∃ g1 A1 n1 c1 g2 A2 n2 c2, e = .returned (.tuple #[.agg #[.bool g1, .slice A1 n1 c1], .agg #[.bool g2, .slice A2 n2 c2], .int .i64 0]) ∧ IsInt w' g1 A1 n1 c1 q ∧ IsInt w' g2 A2 n2 c2 r ∧ Below w.heap.size w w'
theorem IsInt.zOfv {w : World} {neg : Bool} {A : Option Addr} {n c : Nat} {z : Int} (h : IsInt w neg A n c z) : Go.Proofs.YtclmenpclkmfeaaDoor.zOf neg z.natAbs = z := by rw [h.sign]; exact zOf_self z
/-- Both results, stored into two new structs of the call's own. -/
theorem RetDM.stored {w W w1 w2 : World} {q r : Int} {g1 g2 : Bool} {A1 A2 : Option Addr} {n1 c1 n2 c2 g : Nat} (hi1 : IsInt w1 g1 A1 n1 c1 q) (hi2 : IsInt w2 g2 A2 n2 c2 r) (hb2 : Below w1.heap.size w1 w2) (hB : Below w.heap.size w W) (hW : Below W.heap.size W w1) (hg : w.heap.size ≤ g)
    (R : Slot2 w2 g (.bool false) (.slice none 0 0)) (S : Slot2 w2 (g + 1) (.bool false) (.slice none 0 0)) :
    RetDM w q r (.returned (.tuple #[.agg #[.bool g1, .slice A1 n1 c1], .agg #[.bool g2, .slice A2 n2 c2], .int .i64 0]))
      ((((w2.setCell ⟨g, 0, none⟩ (.bool g1)).setCell ⟨g, 1, none⟩ (.slice A1 n1 c1)).setCell ⟨g + 1, 0, none⟩ (.bool g2)).setCell ⟨g + 1, 1, none⟩ (.slice A2 n2 c2)) := by
  have S' := S.far2 (g' := g) (by omega) (.bool g1) (.slice A1 n1 c1)
  have i1 := ((hi1.below hb2).stored R.1 R.2.1 rfl rfl (.bool g1) (.slice A1 n1 c1)).stored S'.1 S'.2.1 rfl rfl (.bool g2) (.slice A2 n2 c2)
  have i2 := (hi2.stored R.1 R.2.1 rfl rfl (.bool g1) (.slice A1 n1 c1)).stored S'.1 S'.2.1 rfl rfl (.bool g2) (.slice A2 n2 c2)
  have B := hB.trans ((hW.trans (hb2.mono hW.size)).mono hB.size)
  exact ⟨_, _, _, _, _, _, _, _, rfl, i1, i2, (((B.setCell hg _).setCell hg _).setCell (p := ⟨g + 1, 0, none⟩) (Nat.le_succ_of_le hg) _).setCell (p := ⟨g + 1, 1, none⟩) (Nat.le_succ_of_le hg) _⟩
theorem build_val (neg : Bool) (A : Option Addr) (n c v : Nat) (z : Int) (xs : List Nat) (w : World) (ha : Lim w w.heap.size A n c xs) (hv : val xs = v) (hz : zOf neg v = z) :
    Calls Tryd.prog 77 #[.bool neg, .slice A n c] w (RetInt w z) := by
  have := build_any neg A n c w.heap.size xs w ha (Nat.le_refl _)
  rwa [hv, hz] at this
theorem trim_val (A : Option Addr) (n c B v k : Nat) (xs : List Nat) (w : World) (ha : Lim w B A n c xs) (hv : val xs = v) (hk : k = (digs v).length) :
    Calls Tryd.prog 80 #[.slice A n c] w fun e w' => e = .returned (.slice A k k) ∧ w = w' := by
  have := trim_any A n c B xs w ha
  rwa [hv, ← hk] at this
theorem Lim.trimv {w : World} {B n c v k : Nat} {A : Option Addr} {xs : List Nat} (h : Lim w B A n c xs) (hv : val xs = v) (hk : k = (digs v).length) : Lim w B A k k (digs v) := by
  have := h.trim
  rwa [hv, ← hk] at this
end Go.Proofs.YtclmenpclkmfeaaDoor
namespace Go.Proofs.YtclmenpclkmfeaaDoor
open Go.RowKit
theorem lt_two {a : Nat} (h : (digs a).length ≤ 2) : a < 18446744073709551616 := by
  have h1 := lt_digs_len a
  have h2 : 4294967296 ^ (digs a).length ≤ 4294967296 ^ 2 := Nat.pow_le_pow_right (by omega) h
  omega
set_option maxHeartbeats 1000000 in
theorem divW_lt (A A' : Option Addr) (n c m d a b : Nat) (w : World) (ha : Lim w w.heap.size A n c (digs a)) (hb : Lim w w.heap.size A' m d (digs b)) (hn : n ≤ 1000000) (hab : a < b) :
    Calls Tryd.prog 79 #[.slice A n c, .slice A' m d] w (DivRes w (a / b) (a % b)) := by
  rw [Nat.div_eq_of_lt hab, Nat.mod_eq_of_lt hab]
  have HO := order_any A A' n c m d w.heap.size w.heap.size _ _ w ha hb
  rw [ordV_digs, cmpN_lt (by exact_mod_cast hab)] at HO
  have HC := fun W (hd : Drawn w W) => clone_any A n c w.heap.size (digs a) W (ha.drawn hd) (by rw [hd.size]; exact Nat.le_refl _) hn
  have HO' := Lib.hid HO
  have HC' := Lib.hid HC
  clear HO HC ha hb
  go_enter Tryd.func79, Tryd.ntmps79
  go_wp2_with fail
  refine HO'.out.mono ?_
  rintro e w1 ⟨rfl, hd1⟩
  go_wp2_with fail
  refine (HC'.out _ hd1).mono ?_
  rintro e w2 ⟨A2, n2, c2, rfl, hl2, hb2⟩
  go_wp2
  go_ret2
  exact ⟨none, 0, 0, [], A2, n2, c2, digs a, rfl, Lim.none_ (by omega), hl2, rfl, val_digs a, by omega, (hd1.below _).trans (hb2.mono (by rw [hd1.size]; exact Nat.le_refl _))⟩
set_option maxHeartbeats 1000000 in
theorem divW_ge (A A' : Option Addr) (n c m d a b : Nat) (w : World) (ha : Lim w w.heap.size A n c (digs a)) (hb : Lim w w.heap.size A' m d (digs b)) (hn : n ≤ 2) (hm : m ≤ 2) (hb0 : 0 < b) (hab : b ≤ a) :
    Calls Tryd.prog 79 #[.slice A n c, .slice A' m d] w (DivRes w (a / b) (a % b)) := by
  have HO := order_any A A' n c m d w.heap.size w.heap.size _ _ w ha hb
  rw [ordV_digs] at HO
  have ho : ¬ cmpN (a : Int) (b : Int) < 0 := by unfold cmpN; split <;> (try split) <;> omega
  generalize cmpN (a : Int) (b : Int) = t at *
  have HW := fun W (hd : Drawn w W) => words_yes A A' n c m d w.heap.size w.heap.size (digs a) (digs b) W (ha.drawn hd) (hb.drawn hd) hn hm
  rw [val_digs, val_digs] at HW
  have hal : a < 18446744073709551616 := lt_two (by rw [ha.len]; exact hn)
  have hbl : b < 18446744073709551616 := lt_two (by rw [hb.len]; exact hm)
  have hQl : a / b < 18446744073709551616 := Nat.lt_of_le_of_lt (Nat.div_le_self a b) hal
  have hRl : a % b < 18446744073709551616 := Nat.lt_of_le_of_lt (Nat.mod_le a b) hal
  have hQ : (a : Int) / (b : Int) = ((a / b : Nat) : Int) := rfl
  have hR : (a : Int) % (b : Int) = ((a % b : Nat) : Int) := rfl
  have hR2 : (a : Int).tmod (b : Int) = ((a % b : Nat) : Int) := rfl
  generalize a / b = Q at *
  generalize a % b = R at *
  have H1 := fun W => ofWord_any Q W hQl
  have H2 := fun W => ofWord_any R W hRl
  have b1 : ((b : Int) == 0) = false := by simp; omega
  have HO' := Lib.hid HO
  have HW' := Lib.hid HW
  have H1' := Lib.hid H1
  have H2' := Lib.hid H2
  have hw1 : IntKind.u64.wrap (Q : Int) = (Q : Int) := by rw [IntKind.wrap_u64]; omega
  have hw2 : IntKind.u64.wrap (R : Int) = (R : Int) := by rw [IntKind.wrap_u64]; omega
  clear HO HW H1 H2 ha hb
  go_enter Tryd.func79, Tryd.ntmps79
  go_wp2_with fail
  refine HO'.out.mono ?_
  rintro e w1 ⟨rfl, hd1⟩
  go_wp2_with fail
  refine (HW'.out _ hd1).mono ?_
  rintro e w2 ⟨rfl, hd2⟩
  go_wp2_with fail
  go_region_with (first | (go_at_call 78; (with_reducible refine (H1'.out _).mono ?_); rintro e w3 ⟨A3, n3, c3, rfl, hl3, hb3⟩) | (go_at_call 78; (with_reducible refine (H2'.out _).mono ?_); rintro e w4 ⟨A4, n4, c4, rfl, hl4, hb4⟩))
  all_goals (
    go_wp2
    go_ret2
    clear hw1 hw2 hQ hR hR2
    have hn3 : n3 ≤ 2 := by rw [← hl3.len]; exact digs_len_le (by omega)
    have hd := hd1.trans hd2
    have B3 : Below w.heap.size w w3 := (hd.below _).trans ((by first | exact hb3 | exact Below.trans (Drawn.below (Drawn.refl _).drew _) hb3 : Below w2.heap.size w2 w3).mono (by rw [hd.size]; exact Nat.le_refl _))
    exact ⟨A3, n3, c3, digs Q, A4, n4, c4, digs R, rfl, (hl3.below hb4).more hb4.size, hl4, val_digs Q, val_digs R, by omega, B3.trans (hb4.mono B3.size)⟩)
theorem divW_any (A A' : Option Addr) (n c m d a b : Nat) (w : World) (ha : Lim w w.heap.size A n c (digs a)) (hb : Lim w w.heap.size A' m d (digs b)) (hn : n ≤ 2) (hm : m ≤ 2) (hb0 : 0 < b) :
    Calls Tryd.prog 79 #[.slice A n c, .slice A' m d] w (DivRes w (a / b) (a % b)) := by
  rcases Nat.lt_or_ge a b with h | h
  · exact divW_lt A A' n c m d a b w ha hb (by omega) h
  · exact divW_ge A A' n c m d a b w ha hb hn hm hb0 h
end Go.Proofs.YtclmenpclkmfeaaDoor
namespace Go.Proofs.YtclmenpclkmfeaaDoor
open Go.RowKit
/-- What stands behind a minus sign, and whether there is one. -/
def digOf (s : ByteArray) : ByteArray := ⟨(Lib.trimPrefix s.data.toList [45]).toArray⟩
def negOf (s : ByteArray) : Bool := Lib.hasPrefix s.data.toList [45]
def readOk (s : ByteArray) : Prop := numOk (digOf s) ∧ ¬ (negOf s = true ∧ (digOf s).toList = [48])
def readZ (s : ByteArray) : Int := zOf (negOf s) (dec (digOf s).toList)
theorem digOf_size (s : ByteArray) : (digOf s).size ≤ s.size := by
  show (Lib.trimPrefix s.data.toList [45]).toArray.size ≤ s.data.size
  unfold Lib.trimPrefix
  rw [List.size_toArray]
  split
  · rw [List.length_drop, Array.length_toList]; omega
  · rw [Array.length_toList]; exact Nat.le_refl _
theorem dec_from (l : List UInt8) : ∀ a : Nat, l.foldl (fun n c => 10 * n + (c.toNat - 48)) a = a * 10 ^ l.length + dec l := by
  induction l with
  | nil => intro a; simp [dec]
  | cons x l ih =>
    intro a
    have h1 := ih (10 * a + (x.toNat - 48))
    have h2 := ih (10 * 0 + (x.toNat - 48))
    have h3 : dec (x :: l) = l.foldl (fun n c => 10 * n + (c.toNat - 48)) (10 * 0 + (x.toNat - 48)) := rfl
    rw [List.foldl_cons, h1, h3, h2, List.length_cons, Nat.pow_succ, Nat.add_mul, Nat.mul_zero, Nat.zero_add, Nat.mul_comm 10 a, Nat.mul_assoc, Nat.mul_comm 10, Nat.add_assoc]
theorem dec_append (l m : List UInt8) : dec (l ++ m) = dec l * 10 ^ m.length + dec m := by
  rw [dec, List.foldl_append]
  exact dec_from m _
theorem size_ext (s : ByteArray) (a b : Nat) (hb : b ≤ s.size) : (s.extract a b).size = b - a := by
  rw [ByteArray.size_extract]; omega
theorem toL_ext (s : ByteArray) (a b : Nat) : (s.extract a b).toList = (s.toList.drop a).take (b - a) := by
  rw [ByteArray.toList_eq, ByteArray.toList_eq, ByteArray.data_extract, Array.toList_extract, List.extract_eq_take_drop]
theorem dig_ext {s : ByteArray} (h : allDig s) (a b : Nat) : allDig (s.extract a b) := by
  intro j hj
  rw [ByteArray.getElem_extract]
  exact h _ _
end Go.Proofs.YtclmenpclkmfeaaDoor
namespace Go.Proofs.YtclmenpclkmfeaaDoor
open Go.RowKit
/-- The decimal digits of n, as bytes. -/
def tx (n : Nat) : List UInt8 := if n < 10 then [UInt8.ofNat (48 + n)] else tx (n / 10) ++ [UInt8.ofNat (48 + n % 10)]
def digL (l : List UInt8) : Prop := ∀ c ∈ l, 48 ≤ c.toNat ∧ c.toNat ≤ 57
theorem ofN (c : UInt8) (h : 48 ≤ c.toNat) : UInt8.ofNat (48 + (c.toNat - 48)) = c := by
  rw [show 48 + (c.toNat - 48) = c.toNat by omega]; exact UInt8.ofNat_toNat
theorem tx_of : ∀ (k : Nat) (l : List UInt8), l.length = k → l ≠ [] → digL l → l.head? ≠ some 48 → l = tx (dec l)
  | 0, l, h, hne, _, _ => absurd (List.eq_nil_of_length_eq_zero h) hne
  | k + 1, l, h, hne, hd, hh => by
    have e := (List.dropLast_concat_getLast hne).symm
    have hc := hd (l.getLast hne) (List.getLast_mem hne)
    generalize l.getLast hne = c at *
    have hl : l.dropLast.length = k := by rw [List.length_dropLast, h]; rfl
    have hd' : digL l.dropLast := fun x hx => hd x ((List.dropLast_sublist l).subset hx)
    generalize l.dropLast = l' at *
    subst e
    rcases l' with _ | ⟨a, l'⟩
    · have h1 : c.toNat ≠ 48 := fun h => hh (by show some c = some 48; rw [show c = 48 from UInt8.toNat_inj.1 h])
      have h2 : dec ([] ++ [c]) = c.toNat - 48 := by rw [dec_snoc]; simp [dec]
      rw [h2, tx, if_pos (by omega), ofN c hc.1]
      rfl
    · have ih := tx_of k (a :: l') hl (by simp) hd' hh
      have hpos : 0 < dec (a :: l') := by
        rcases Nat.eq_zero_or_pos (dec (a :: l')) with h0 | h0
        · rw [h0, tx, if_pos (by decide)] at ih
          exact absurd (congrArg List.head? ih) hh
        · exact h0
      rw [dec_snoc, tx, if_neg (by omega), show (10 * dec (a :: l') + (c.toNat - 48)) / 10 = dec (a :: l') by omega, show (10 * dec (a :: l') + (c.toNat - 48)) % 10 = c.toNat - 48 by omega, ofN c hc.1, ← ih]
theorem dec_cons (c : UInt8) (l : List UInt8) : dec (c :: l) = (c.toNat - 48) * 10 ^ l.length + dec l := by
  have := dec_append [c] l
  simpa [dec] using this
theorem drop_spec : ∀ l : List UInt8, digL l → dec (l.dropWhile (· == 48)) = dec l ∧ digL (l.dropWhile (· == 48)) ∧ (l.dropWhile (· == 48)).head? ≠ some 48
  | [], _ => by simp [digL]
  | c :: l, h => by
    have ih := drop_spec l (fun x hx => h x (List.mem_cons_of_mem _ hx))
    rw [List.dropWhile_cons]
    by_cases e : c = 48
    · subst e
      rw [if_pos (by rfl)]
      refine ⟨?_, ih.2⟩
      rw [ih.1, dec_cons]
      simp
    · rw [if_neg (by simpa using e)]
      exact ⟨rfl, h, by simpa using e⟩
theorem drop_tx (l : List UInt8) (h : digL l) (hp : 0 < dec l) : l.dropWhile (· == 48) = tx (dec l) := by
  obtain ⟨h1, h2, h3⟩ := drop_spec l h
  rw [← h1]
  refine tx_of _ _ rfl ?_ h2 h3
  intro e
  rw [e, show dec [] = 0 from rfl] at h1
  omega
/-- The text of an integer. -/
def txt (z : Int) : ByteArray := ⟨((if z < 0 then [45] else []) ++ tx z.natAbs).toArray⟩
theorem txt_zero : txt 0 = ⟨#[48]⟩ := by
  show (⟨([] ++ tx 0).toArray⟩ : ByteArray) = _
  rw [tx, if_pos (by decide)]
  rfl
theorem getD_right (xs ys : List Nat) (k : Nat) : (xs ++ ys).getD (xs.length + k) 0 = ys.getD k 0 := by
  rw [List.getD_eq_getElem?_getD, List.getElem?_append_right (by omega), Nat.add_sub_cancel_left, ← List.getD_eq_getElem?_getD]
theorem dec_of (bs : List Nat) (h : ∀ b ∈ bs, 48 ≤ b ∧ b ≤ 57) : dec (bs.map UInt8.ofNat) = decN bs ∧ digL (bs.map UInt8.ofNat) := by
  have key : ∀ b, 48 ≤ b ∧ b ≤ 57 → (UInt8.ofNat b).toNat = b := fun b hb => by rw [UInt8.toNat_ofNat']; omega
  refine ⟨?_, ?_⟩
  · induction bs with
    | nil => rfl
    | cons x l ih =>
      rw [List.map_cons, dec_cons, decN_cons, ih (fun b hb => h b (List.mem_cons_of_mem _ hb)), key x (h x (List.mem_cons_self ..)), List.length_map]
  · intro c hc
    obtain ⟨b, hb, rfl⟩ := List.mem_map.1 hc
    rw [key b (h b hb)]
    exact h b hb
end Go.Proofs.YtclmenpclkmfeaaDoor
namespace Go.Proofs.YtclmenpclkmfeaaDoor
open Go.RowKit
theorem read_step (P grp m : Nat) (pre ch : List UInt8) (hp : dec pre = P) (hc : dec ch = grp) (hl : ch.length = m) (h : m = 9 ∨ P = 0) (_hm : m ≤ 9) : dec (pre ++ ch) = P * 1000000000 + grp := by
  rw [dec_append, hp, hc, hl]
  rcases h with rfl | rfl
  · rfl
  · simp
end Go.Proofs.YtclmenpclkmfeaaDoor
