/- Contracts of integer.ofWord. Contracts of integer.Of, Neg, Abs, withSign. Words for statements that assign several integers at once: values that are integers, structs of the call's own that hold them. Contract of integer.product. Contract of integer.sum. Contract of integer.difference. Contracts of cmp.Compare and integer.order. Contracts of torsionref01.less, Same. Contracts of integer.word. -/
import Derived.Test.YtlpoboikompjfaaGreatDoorVG0RatMath
namespace Go.Proofs.YtlpoboikompjfaaGreatDoor
open Go.RowKit
set_option maxHeartbeats 400000 in
theorem ofWord_any (x : Nat) (w : World) (hx : x < 18446744073709551616) :
    Calls Tryz.prog 104 #[.int .u64 (x : Int)] w (RetSl w (digs x)) := by
  rcases Nat.eq_zero_or_pos x with h0 | h0
  · subst h0
    rw [digs_zero]
    go_enter Tryz.func104, Tryz.ntmps104
    go_wp2
    go_ret
    exact ⟨none, 0, 0, rfl, Lim.none_ (by omega), Below.refl _ _⟩
  · have hb : ((x : Int) == 0) = false := by simp; omega
    by_cases h1 : x < 4294967296
    · have hd : digs x = [x] := by
        have := digs_cons (v := 0) h1 (by omega)
        rwa [Nat.mul_zero, Nat.add_zero, digs_zero] at this
      rw [hd]
      have hb2 : ((x : Int) / 4294967296 == 0) = true := by simp; omega
      clear hd
      go_enter Tryz.func104, Tryz.ntmps104
      go_wp2
      go_ret
      exact ⟨_, _, _, rfl, (row_new w [x] _ rfl).lim (fun z hz => by simp at hz; omega) 1 (by simp) (by omega), (Below.refl _ _).alloc (Nat.le_refl _) _⟩
    · have hd : digs x = [x % 4294967296, x / 4294967296] := by
        have h2 := digs_cons (x := x % 4294967296) (v := x / 4294967296) (by omega) (by omega)
        have h3 := digs_cons (x := x / 4294967296) (v := 0) (by omega) (by omega)
        rw [Nat.mul_zero, Nat.add_zero, digs_zero] at h3
        rw [show x % 4294967296 + 4294967296 * (x / 4294967296) = x by omega, h3] at h2
        exact h2
      rw [hd]
      have hb2 : ((x : Int) / 4294967296 == 0) = false := by simp; omega
      clear hd
      go_enter Tryz.func104, Tryz.ntmps104
      go_wp2
      go_ret
      exact ⟨_, _, _, rfl, (row_new w [x % 4294967296, x / 4294967296] _ (by simp [ints])).lim (fun z hz => by simp at hz; omega) 2 (by simp) (by omega), (Below.refl _ _).alloc (Nat.le_refl _) _⟩
end Go.Proofs.YtlpoboikompjfaaGreatDoor
namespace Go.Proofs.YtlpoboikompjfaaGreatDoor
open Go.RowKit
/-- A result that was stored into a new struct of the call's own. -/
theorem RetInt.stored {w W w1 : World} {neg : Bool} {A : Option Addr} {n c g : Nat} {z : Int} {a0 a1 : Value} (hi : IsInt w1 neg A n c z) (hW : Below w.heap.size w W) (hb : Below W.heap.size W w1) (hg : w.heap.size ≤ g)
    (h0 : w1.cell? ⟨g, 0, none⟩ = some a0) (h1 : w1.cell? ⟨g, 1, none⟩ = some a1) (n0 : noLimb a0 = true) (n1 : noLimb a1 = true) :
    RetInt w z (.returned (.agg #[.bool neg, .slice A n c])) ((w1.setCell ⟨g, 0, none⟩ (.bool neg)).setCell ⟨g, 1, none⟩ (.slice A n c)) :=
  ⟨_, _, _, _, rfl, hi.stored h0 h1 n0 n1 _ _, ((hW.trans (hb.mono hW.size)).setCell hg _).setCell hg _⟩
set_option maxHeartbeats 400000 in
theorem of_any (n : Int) (w : World) (h1 : -9223372036854775808 ≤ n) (h2 : n ≤ 9223372036854775807) :
    Calls Tryz.prog 77 #[.int .i64 n] w (RetInt w n) := by
  by_cases h0 : n < 0
  · have H1 := fun W => ofWord_any n.natAbs W (by omega)
    have H2 := fun A k c W h => build_digs true A k c n.natAbs n W h (by unfold zOf; simp; omega)
    have HW := Lib.hid (wrap_neg_wrap n h1 h0)
    have H1' := Lib.hid H1
    have H2' := Lib.hid H2
    clear H1 H2
    go_enter Tryz.func77, Tryz.ntmps77
    go_wp2_with fail
    rw [HW.out]
    refine (H1'.out _).mono ?_
    rintro e w1 ⟨A1, n1, c1, rfl, hl1, hb1⟩
    have S0 := Lib.hid ((Slot2.new w (.bool false) (.slice none 0 0) 26).after hb1)
    go_wp2_with fail
    refine (H2'.out _ _ _ _ hl1).mono ?_
    rintro e w2 ⟨neg2, A2, n2, c2, rfl, hi2, hb2⟩
    obtain ⟨k0, k1, f0, f1, _⟩ := S0.out.after hb2
    go_wp2
    exact bodyPost_ret (v := .agg #[.bool neg2, .slice A2 n2 c2]) (by simp [results, Tryz.results77, go_sem, k0, k1]) rfl
      (RetInt.stored hi2 (((Below.refl _ _).alloc (Nat.le_refl _) _).trans (hb1.mono (by simp))) hb2 (Nat.le_refl _) k0 k1 rfl rfl)
  · obtain ⟨n, rfl⟩ := Int.eq_ofNat_of_zero_le (show 0 ≤ n by omega)
    have H1 := fun W => ofWord_any n W (by omega)
    have H2 := fun A k c W h => build_digs false A k c n n W h rfl
    have H1' := Lib.hid H1
    have H2' := Lib.hid H2
    clear H1 H2
    go_enter Tryz.func77, Tryz.ntmps77
    go_wp2_with fail
    refine (H1'.out _).mono ?_
    rintro e w1 ⟨A1, n1, c1, rfl, hl1, hb1⟩
    have S0 := Lib.hid ((Slot2.new w (.bool false) (.slice none 0 0) 26).after hb1)
    go_wp2_with fail
    refine (H2'.out _ _ _ _ hl1).mono ?_
    rintro e w2 ⟨neg2, A2, n2, c2, rfl, hi2, hb2⟩
    obtain ⟨k0, k1, f0, f1, _⟩ := S0.out.after hb2
    go_wp2
    exact bodyPost_ret (v := .agg #[.bool neg2, .slice A2 n2 c2]) (by simp [results, Tryz.results77, go_sem, k0, k1]) rfl
      (RetInt.stored hi2 (((Below.refl _ _).alloc (Nat.le_refl _) _).trans (hb1.mono (by simp))) hb2 (Nat.le_refl _) k0 k1 rfl rfl)

set_option maxHeartbeats 400000 in
theorem neg_any (neg : Bool) (A : Option Addr) (n c : Nat) (z : Int) (w : World) (ha : IsInt w neg A n c z) (hn : n ≤ 1000000) :
    Calls Tryz.prog 62 #[.agg #[.bool neg, .slice A n c]] w (RetInt w (-z)) := by
  have H1 := fun W (hW : Below w.heap.size w W) => clone_any A n c w.heap.size (digs z.natAbs) W (ha.lim.below hW) hW.size hn
  have H2 := fun A k c W h => build_digs (!neg) A k c z.natAbs (-z) W h (by rw [ha.sign]; exact zOf_not z)
  have H1' := Lib.hid H1
  have H2' := Lib.hid H2
  clear H1 H2
  obtain ⟨HB, P0, R0⟩ := frame11 w (.bool neg) (.slice A n c)
  go_enter Tryz.func62, Tryz.ntmps62
  go_wp2_with fail
  go_region_held3 (fun W => W.cell? ⟨w.heap.size, 0, none⟩ = some (.bool neg) ∧ W.cell? ⟨w.heap.size, 1, none⟩ = some (.slice A n c)) (first | go_keep | exact ⟨P1.1, P1.2.1⟩ | exact ⟨P2.1, P2.2.1⟩)
    (first | (go_at_call 107; refine (H1'.out _ ?_).mono ?_; (first | exact HB | exact HB.drew | exact Below.drewN' HB _); rintro e w1 ⟨A1, n1, c1, rfl, hl1, hb1⟩; have B1 := Below.trans (by first | exact HB | exact HB.drew | exact Below.drewN' HB _) (hb1.mono HB.size); have P1 := Slot2.after (by first | exact P0 | exact P0.drew | exact P0.drewN _) hb1; have R1 := Slot2.after (by first | exact R0 | exact R0.drew | exact R0.drewN _) hb1) | (go_at_call 103; refine (H2'.out _ _ _ _ hl1).mono ?_; rintro e w2 ⟨neg2, A2, n2, c2, rfl, hi2, hb2⟩; have P2 := P1.after hb2; obtain ⟨k0, k1, f0, f1, _⟩ := R1.after hb2))
  go_wp2
  exact bodyPost_ret (v := .agg #[.bool neg2, .slice A2 n2 c2]) (by simp [results, Tryz.results62, go_sem, k0, k1]) rfl
    (RetInt.stored hi2 B1 hb2 (by omega) k0 k1 rfl rfl)

set_option maxHeartbeats 400000 in
theorem abs_any (neg : Bool) (A : Option Addr) (n c : Nat) (z : Int) (w : World) (ha : IsInt w neg A n c z) (hn : n ≤ 1000000) :
    Calls Tryz.prog 76 #[.agg #[.bool neg, .slice A n c]] w (RetInt w (z.natAbs : Int)) := by
  have H1 := fun W (hW : Below w.heap.size w W) => clone_any A n c w.heap.size (digs z.natAbs) W (ha.lim.below hW) hW.size hn
  have H2 := fun A k c W h => build_digs false A k c z.natAbs (z.natAbs : Int) W h rfl
  have H1' := Lib.hid H1
  have H2' := Lib.hid H2
  clear H1 H2
  obtain ⟨HB, P0, R0⟩ := frame11 w (.bool neg) (.slice A n c)
  go_enter Tryz.func76, Tryz.ntmps76
  go_wp2_with fail
  refine (H1'.out _ HB).mono ?_
  rintro e w1 ⟨A1, n1, c1, rfl, hl1, hb1⟩
  have B1 := HB.trans (hb1.mono HB.size)
  have R1 := R0.after hb1
  go_wp2_with fail
  refine (H2'.out _ _ _ _ hl1).mono ?_
  rintro e w2 ⟨neg2, A2, n2, c2, rfl, hi2, hb2⟩
  obtain ⟨k0, k1, f0, f1, _⟩ := R1.after hb2
  go_wp2
  exact bodyPost_ret (v := .agg #[.bool neg2, .slice A2 n2 c2]) (by simp [results, Tryz.results76, go_sem, k0, k1]) rfl
    (RetInt.stored hi2 B1 hb2 (by omega) k0 k1 rfl rfl)

end Go.Proofs.YtlpoboikompjfaaGreatDoor
namespace Go.Proofs.YtlpoboikompjfaaGreatDoor
open Go.RowKit
/-- The struct at block g holds the valid integer z. -/
def IntAt (w : World) (g : Nat) (z : Int) : Prop := ∃ neg A n c, Slot2 w g (.bool neg) (.slice A n c) ∧ IsInt w neg A n c z
theorem IntAt.after {w w' : World} {g : Nat} {z : Int} (h : IntAt w g z) (hb : Below w.heap.size w w') : IntAt w' g z := by
  obtain ⟨neg, A, n, c, h1, h2⟩ := h
  exact ⟨neg, A, n, c, h1.after hb, h2.below hb⟩
theorem IntAt.new {w : World} {neg : Bool} {A : Option Addr} {n c : Nat} {z : Int} (h : IsInt w neg A n c z) : IntAt (w.alloc (.cells #[.bool neg, .slice A n c] 26)) w.heap.size z :=
  ⟨neg, A, n, c, Slot2.new w _ _ _, h.below ((Below.refl _ _).alloc (Nat.le_refl _) _)⟩
def Bag (w : World) (l : List (Nat × Int)) : Prop := ∀ p ∈ l, IntAt w p.1 p.2
theorem Bag.after {w w' : World} {l : List (Nat × Int)} (h : Bag w l) (hb : Below w.heap.size w w') : Bag w' l := fun p hp => (h p hp).after hb
theorem Bag.cons {w : World} {g : Nat} {z : Int} {l : List (Nat × Int)} (h : IntAt w g z) (hl : Bag w l) : Bag w ((g, z) :: l) := by
  intro p hp
  rcases List.mem_cons.1 hp with rfl | hp
  · exact h
  · exact hl p hp
theorem bag_nil (w : World) : Bag w [] := fun p hp => by cases hp
theorem Bag.new {w : World} {neg : Bool} {A : Option Addr} {n c : Nat} {z : Int} {l : List (Nat × Int)} (hl : Bag w l) (h : IsInt w neg A n c z) : Bag (w.alloc (.cells #[.bool neg, .slice A n c] 26)) ((w.heap.size, z) :: l) :=
  Bag.cons (IntAt.new h) (hl.after ((Below.refl _ _).alloc (Nat.le_refl _) _))
/-- The value v is the valid integer z. -/
def IntV (w : World) (v : Value) (z : Int) : Prop := ∃ neg A n c, v = .agg #[.bool neg, .slice A n c] ∧ IsInt w neg A n c z
theorem IntV.below {w w' : World} {v : Value} {z : Int} (h : IntV w v z) (hb : Below w.heap.size w w') : IntV w' v z := by
  obtain ⟨neg, A, n, c, e, hi⟩ := h
  exact ⟨neg, A, n, c, e, hi.below hb⟩
theorem IntV.drew {w : World} {v : Value} {z : Int} (h : IntV w v z) : IntV w.drew v z := h.below (Below.refl _ _).drew
/-- The pointer v points to a struct of two cells of the call's own, made since B: not yet written, or holding the integer z. -/
def OwnP (B : Nat) (w : World) (v : Value) (st : Bool) (z : Int) : Prop := ∃ g, v = .pointer (some ⟨g, 0, none⟩) ∧ B ≤ g ∧ ∃ a0 a1, Slot2 w g a0 a1 ∧ noLimb a0 = true ∧ noLimb a1 = true ∧ (st = true → IntV w (.agg #[a0, a1]) z)
theorem OwnP.below {B : Nat} {w w' : World} {v : Value} {st : Bool} {z : Int} (h : OwnP B w v st z) (hb : Below w.heap.size w w') : OwnP B w' v st z := by
  obtain ⟨g, e, hg, a0, a1, hs, n0, n1, hi⟩ := h
  exact ⟨g, e, hg, a0, a1, hs.after hb, n0, n1, fun h => (hi h).below hb⟩
/-- A new struct. -/
theorem OwnP.new {B : Nat} {w : World} (hB : B ≤ w.heap.size) (z : Int) : OwnP B (w.alloc (.cells #[.bool false, .slice none 0 0] 26)) (.pointer (some ⟨w.heap.size, 0, none⟩)) false z :=
  ⟨_, rfl, hB, _, _, Slot2.new w _ _ _, rfl, rfl, fun h => by cases h⟩
theorem IsInt.set2 {w : World} {neg : Bool} {A : Option Addr} {n c : Nat} {z : Int} (h : IsInt w neg A n c z) {g : Nat} {a0 a1 : Value} (hs : Slot2 w g a0 a1) (n0 : noLimb a0 = true) (n1 : noLimb a1 = true) (u0 u1 : Value) :
    IsInt ((w.setCell ⟨g, 0, none⟩ u0).setCell ⟨g, 1, none⟩ u1) neg A n c z := h.stored hs.1 hs.2.1 n0 n1 u0 u1
theorem IntV.set2 {w : World} {v : Value} {z : Int} (h : IntV w v z) {g : Nat} {a0 a1 : Value} (hs : Slot2 w g a0 a1) (n0 : noLimb a0 = true) (n1 : noLimb a1 = true) (u0 u1 : Value) : IntV ((w.setCell ⟨g, 0, none⟩ u0).setCell ⟨g, 1, none⟩ u1) v z := by
  obtain ⟨neg, A, n, c, e, hi⟩ := h
  exact ⟨neg, A, n, c, e, hi.set2 hs n0 n1 u0 u1⟩
/-- A tuple of two integers and a code. -/
def TupV (w : World) (v : Value) (q r : Int) (e : Int) : Prop := ∃ v1 v2, v = .tuple #[v1, v2, .int .i64 e] ∧ IntV w v1 q ∧ IntV w v2 r
theorem TupV.below {w w' : World} {v : Value} {q r e : Int} (h : TupV w v q r e) (hb : Below w.heap.size w w') : TupV w' v q r e := by
  obtain ⟨v1, v2, e1, h1, h2⟩ := h
  exact ⟨v1, v2, e1, h1.below hb, h2.below hb⟩
theorem TupV.set2 {w : World} {v : Value} {q r e : Int} (h : TupV w v q r e) {g : Nat} {a0 a1 : Value} (hs : Slot2 w g a0 a1) (n0 : noLimb a0 = true) (n1 : noLimb a1 = true) (u0 u1 : Value) : TupV ((w.setCell ⟨g, 0, none⟩ u0).setCell ⟨g, 1, none⟩ u1) v q r e := by
  obtain ⟨v1, v2, e1, h1, h2⟩ := h
  exact ⟨v1, v2, e1, h1.set2 hs n0 n1 u0 u1, h2.set2 hs n0 n1 u0 u1⟩
/-- A store of an integer into one of them leaves the others. -/
theorem OwnP.far {B : Nat} {w : World} {v : Value} {st : Bool} {z : Int} (h : OwnP B w v st z) {g : Nat} (hne : v ≠ .pointer (some ⟨g, 0, none⟩)) {a0 a1 : Value} (hs : Slot2 w g a0 a1) (n0 : noLimb a0 = true) (n1 : noLimb a1 = true) (u0 u1 : Value) :
    OwnP B ((w.setCell ⟨g, 0, none⟩ u0).setCell ⟨g, 1, none⟩ u1) v st z := by
  obtain ⟨g', e, hg, b0, b1, hs', m0, m1, hi⟩ := h
  have hgg : g' ≠ g := fun h => hne (by rw [e, h])
  exact ⟨g', e, hg, b0, b1, hs'.far2 hgg u0 u1, m0, m1, fun h => (hi h).set2 hs n0 n1 u0 u1⟩
theorem OwnP.near {B : Nat} {w : World} {g : Nat} {z : Int} {neg : Bool} {A : Option Addr} {n c : Nat} (hi : IsInt w neg A n c z) (hg : B ≤ g) {a0 a1 : Value} (hs : Slot2 w g a0 a1) (n0 : noLimb a0 = true) (n1 : noLimb a1 = true) :
    OwnP B ((w.setCell ⟨g, 0, none⟩ (.bool neg)).setCell ⟨g, 1, none⟩ (.slice A n c)) (.pointer (some ⟨g, 0, none⟩)) true z :=
  ⟨g, rfl, hg, _, _, hs.set2 _ _, rfl, rfl, fun _ => ⟨neg, A, n, c, rfl, hi.set2 hs n0 n1 _ _⟩⟩
theorem OwnP.intAt {B : Nat} {w : World} {v : Value} {z : Int} (h : OwnP B w v true z) : ∃ g, v = .pointer (some ⟨g, 0, none⟩) ∧ IntAt w g z := by
  obtain ⟨g, e, _, a0, a1, hs, _, _, hi⟩ := h
  obtain ⟨neg, A, n, c, e2, hz⟩ := hi rfl
  have e3 : a0 = .bool neg ∧ a1 = .slice A n c := by simpa using e2
  rw [e3.1, e3.2] at hs
  exact ⟨g, e, neg, A, n, c, hs, hz⟩
theorem OwnP.intAtB {B : Nat} {w : World} {v : Value} {z : Int} (h : OwnP B w v true z) : ∃ g, v = .pointer (some ⟨g, 0, none⟩) ∧ IntAt w g z ∧ B ≤ g := by
  obtain ⟨g, e, hB, a0, a1, hs, _, _, hi⟩ := h
  obtain ⟨neg, A, n, c, e2, hz⟩ := hi rfl
  have e3 : a0 = .bool neg ∧ a1 = .slice A n c := by simpa using e2
  rw [e3.1, e3.2] at hs
  exact ⟨g, e, ⟨neg, A, n, c, hs, hz⟩, hB⟩
theorem IntAt.far2 {w : World} {g g' : Nat} {z : Int} (h : IntAt w g z) (hne : g ≠ g') {a0 a1 : Value} (hs : Slot2 w g' a0 a1) (n0 : noLimb a0 = true) (n1 : noLimb a1 = true) (u0 u1 : Value) : IntAt ((w.setCell ⟨g', 0, none⟩ u0).setCell ⟨g', 1, none⟩ u1) g z := by
  obtain ⟨neg, A, n, c, h1, h2⟩ := h
  exact ⟨neg, A, n, c, h1.far2 hne u0 u1, h2.set2 hs n0 n1 u0 u1⟩
theorem IntAt.near2 {w : World} {g : Nat} {z : Int} {neg : Bool} {A : Option Addr} {n c : Nat} (hi : IsInt w neg A n c z) {a0 a1 : Value} (hs : Slot2 w g a0 a1) (n0 : noLimb a0 = true) (n1 : noLimb a1 = true) : IntAt ((w.setCell ⟨g, 0, none⟩ (.bool neg)).setCell ⟨g, 1, none⟩ (.slice A n c)) g z :=
  ⟨neg, A, n, c, hs.set2 _ _, hi.set2 hs n0 n1 _ _⟩
/-- Two of them lie apart where one is new. -/
theorem OwnP.lt {B : Nat} {w : World} {v : Value} {st : Bool} {z : Int} (h : OwnP B w v st z) : v ≠ .pointer (some ⟨w.heap.size, 0, none⟩) := by
  obtain ⟨g, e, _, a0, a1, hs, _, _, _⟩ := h
  have := hs.2.2.2.2
  rw [e]
  intro h
  have e := congrArg (fun v => match v with | .pointer (some a) => a.block | _ => 0) h
  have e2 : g = w.heap.size := e
  omega
theorem Below.set2 {B : Nat} {w0 w : World} (h : Below B w0 w) {g : Nat} (hg : B ≤ g) (u0 u1 : Value) : Below B w0 ((w.setCell ⟨g, 0, none⟩ u0).setCell ⟨g, 1, none⟩ u1) := (h.setCell hg _).setCell hg _
end Go.Proofs.YtlpoboikompjfaaGreatDoor
namespace Go.Proofs.YtlpoboikompjfaaGreatDoor
open Go.RowKit
theorem getD_zeros {k : Nat} (n : Nat) : Hid (∀ j, k ≤ j → (List.replicate n 0).getD j 0 = 0) := by
  intro j _
  rw [List.getD_eq_getElem?_getD, List.getElem?_replicate]
  split <;> rfl
set_option maxHeartbeats 1000000 in
theorem prod_pos (A A' : Option Addr) (n c m d B B' : Nat) (xs ys : List Nat) (w : World) (ha : Lim w B A n c xs) (hb : Lim w B' A' m d ys) (hB : B ≤ w.heap.size) (hB' : B' ≤ w.heap.size) (hn : n ≤ 1000000) (hm : m ≤ 1000000) (hn0 : 0 < n) (hm0 : 0 < m) :
    Calls Tryz.prog 114 #[.slice A n c, .slice A' m d] w fun e w' => ∃ zs, RetSl w zs e w' ∧ val zs = val xs * val ys ∧ zs.length = n + m := by
  have hmk : ∀ W : World, (Instr.makeSlice 22 (.int .i64 ((n : Int) + m)) (.int .i64 ((n : Int) + m))).run Tryz.prog W =
    .ok (.slice (some ⟨W.heap.size, 0, none⟩) (n + m) (n + m)) (W.alloc (.cells (madeCells #[.int .u32 0] (n + m)) 84)) := fun W => make_u32 (n + m) (by omega) W
  have b1 : ((n : Int) == 0) = false := by simp; omega
  have b2 : ((m : Int) == 0) = false := by simp; omega
  go_enter Tryz.func114, Tryz.ntmps114
  go_wp2
  go_loopw [27] (fun i wr => ∃ k : Nat, ∃ R : List Nat, k ≤ n ∧ i = .int .i64 k ∧ Row wr w.heap.size R ∧ Limbs R ∧ Hid (R.length = n + m) ∧ Hid (∀ j, k + m ≤ j → R.getD j 0 = 0) ∧ Hid (val R = val (xs.take k) * val ys) ∧ Below w.heap.size w wr) (fun i _ => n - (intOf i).toNat)
  case atStart => exact ⟨0, _, by omega, rfl, Row.made w (n + m), limbs_zeros _, by simp [Hid], getD_zeros _, by simp [Hid, val, val_zeros], (Below.refl _ _).alloc (Nat.le_refl _) _⟩
  case round =>
    obtain ⟨k, R, hk, rfl, hR, hL, hlen, hz, hv, hbel⟩ := hrel
    by_cases hkn : k < n
    · obtain ⟨ad, rfl, _, x, hx, hxl, hcx⟩ := (ha.below (hbel.mono hB)).at_ hkn
      go_wp2
      obtain ⟨wo, rfl⟩ : ∃ wo : World, wo = wr := ⟨_, rfl⟩
      go_loopw [8, 37] (fun cr i wi => ∃ l q : Nat, ∃ S : List Nat, l ≤ m ∧ i = .int .i64 l ∧ cr = .int .u64 q ∧ q < 4294967296 ∧ Row wi w.heap.size S ∧ Limbs S ∧ Hid (S.length = n + m) ∧ Hid (∀ j, k + m ≤ j → S.getD j 0 = 0) ∧
        Hid (val S + q * (4294967296 ^ k * 4294967296 ^ l) = val R + x * val (ys.take l) * 4294967296 ^ k) ∧ Below w.heap.size w wi) (fun _ i _ => m - (intOf i).toNat)
      case atStart => exact ⟨0, 0, R, by omega, rfl, rfl, by omega, hR, hL, hlen, hz, by simp [Hid, val], hbel⟩
      case round =>
        obtain ⟨l, q, S, hl, rfl, rfl, hq, hS, hLS, hlenS, hzS, hvS, hbel2⟩ := hrel
        by_cases hlm : l < m
        · obtain ⟨ad', rfl, _, y, hy, hyl, hcy⟩ := (hb.below (hbel2.mono hB')).at_ hlm
          have hcr := hS.cell (k := k + l) (by rw [hlenS.out]; omega)
          have hfr := hS.frozen (k + l)
          obtain ⟨r, hr⟩ : ∃ r, r = S.getD (k + l) 0 := ⟨_, rfl⟩
          have hrl : r < 4294967296 := by
            subst hr
            rw [List.getD_eq_getElem?_getD, List.getElem?_eq_getElem (by rw [hlenS.out]; omega)]
            exact hLS _ (List.getElem_mem _)
          rw [← hr] at hcr
          have HR := Lib.hid hr
          clear hr
          obtain ⟨p, hp⟩ : ∃ p : Nat, p = x * y := ⟨_, rfl⟩
          have hpl : p ≤ 18446744065119617025 := by
            subst hp
            exact Nat.mul_le_mul (show x ≤ 4294967295 by omega) (show y ≤ 4294967295 by omega)
          have hxy : (x : Int) * (y : Int) = (p : Int) := by rw [hp]; exact (Int.natCast_mul x y).symm
          have HP := Lib.hid hp
          clear hp
          have i0 : (0 : Int) ≤ (k : Int) + l := by omega
          have i1 : (k : Int) + l < (n : Int) + m := by omega
          have i2 : ((k : Int) + l).toNat = k + l := by omega
          have i3 : (l : Int) < m := by omega
          have i4 : (0 : Int) ≤ l := by omega
          have w0 : IntKind.i64.wrap ((k : Int) + l) = (k : Int) + l := by rw [IntKind.wrap_i64]; omega
          have w1 : IntKind.u64.wrap (p : Int) = (p : Int) := by rw [IntKind.wrap_u64]; omega
          have w2 : IntKind.u64.wrap ((p : Int) + r) = (p : Int) + r := by rw [IntKind.wrap_u64]; omega
          have w3 : IntKind.u64.wrap ((p : Int) + r + q) = (p : Int) + r + q := by rw [IntKind.wrap_u64]; omega
          go_wp2
          go_quiet (fail)
          clear w0 w1 w2 w3
          go_wp2
          go_roundw
          case rel =>
            have e1 : (((p + r + q) % 4294967296 : Nat) : Int) = ((p : Int) + r + q) % 4294967296 := by omega
            have e2 : (((p + r + q) / 4294967296 : Nat) : Int) = ((p : Int) + r + q) / 4294967296 := by omega
            refine ⟨l + 1, (p + r + q) / 4294967296, S.set (k + l) ((p + r + q) % 4294967296), by omega, by go_num, by rw [e2], by omega, ?_, limbs_set hLS _ (by omega), by rw [Hid, List.length_set]; exact hlenS.out, fun j hj => ?_, ?_, ?_⟩
            · rw [← e1]; exact (Row.drewN hS _).set _ _
            · rw [getD_set_ne _ _ (by omega)]; exact hzS.out j hj
            · have h1 := val_set S (k + l) ((p + r + q) % 4294967296) (by rw [hlenS.out]; omega)
              rw [← HR.out, Nat.pow_add] at h1
              rw [Hid, val_take_succ ys, ← hy.out, Nat.pow_succ]
              exact prod_step hvS.out (by rw [HP.out]) h1
            · exact (Below.drewN' hbel2 _).setCell (by simp) _
          case measure => simp [intOf]; omega
        · obtain rfl : l = m := by omega
          have hcr := hS.cell (k := k + l) (by rw [hlenS.out]; omega)
          have hfr := hS.frozen (k + l)
          go_wp2
          go_roundw
          case rel =>
            refine ⟨k + 1, S.set (k + l) q, by omega, by go_num, hS.set _ _, limbs_set hLS _ hq, by rw [Hid, List.length_set]; exact hlenS.out, fun j hj => ?_, ?_, hbel2.setCell (by simp) _⟩
            · rw [getD_set_ne _ _ (by omega)]; exact hzS.out j (by omega)
            · have h1 := val_set S (k + l) q (by rw [hlenS.out]; omega)
              rw [hzS.out (k + l) (Nat.le_refl _), Nat.pow_add] at h1
              have h2 := hvS.out
              rw [List.take_of_length_le (l := ys) (by rw [hb.len]; exact Nat.le_refl _)] at h2
              rw [Hid, val_take_succ xs, ← hx.out]
              have h3 := hv.out
              have e1 : (val (xs.take k) + 4294967296 ^ k * x) * val ys = val R + x * val ys * 4294967296 ^ k := by
                rw [Nat.add_mul, ← h3, Nat.mul_comm (4294967296 ^ k) x, Nat.mul_assoc, Nat.mul_comm (4294967296 ^ k) (val ys), ← Nat.mul_assoc]
              rw [e1, ← h2, Nat.mul_comm q]
              simpa using h1
          case measure => simp [intOf]; omega
    · obtain rfl : k = n := by omega
      go_wp2
      go_ret
      refine ⟨R, ⟨_, _, _, rfl, hR.len_lim hL (k + m) hlen.out (by omega), hbel⟩, ?_, hlen.out⟩
      rw [hv.out, List.take_of_length_le (l := xs) (by rw [ha.len]; exact Nat.le_refl _)]
end Go.Proofs.YtlpoboikompjfaaGreatDoor
namespace Go.Proofs.YtlpoboikompjfaaGreatDoor
open Go.RowKit
set_option maxHeartbeats 1000000 in
theorem sum_ge (A A' : Option Addr) (n c m d B B' : Nat) (xs ys : List Nat) (w : World) (ha : Lim w B A n c xs) (hb : Lim w B' A' m d ys) (hB : B ≤ w.heap.size) (hB' : B' ≤ w.heap.size) (hn : n ≤ 1000000) (hmn : m ≤ n) :
    Calls Tryz.prog 108 #[.slice A n c, .slice A' m d] w fun e w' => ∃ zs, RetSl w zs e w' ∧ val zs = val xs + val ys ∧ zs.length = n + 1 := by
  have hmk : ∀ W : World, (Instr.makeSlice 22 (.int .i64 ((n : Int) + 1)) (.int .i64 ((n : Int) + 1))).run Tryz.prog W =
    .ok (.slice (some ⟨W.heap.size, 0, none⟩) (n + 1) (n + 1)) (W.alloc (.cells (madeCells #[.int .u32 0] (n + 1)) 84)) := fun W => make_u32 (n + 1) (by omega) W
  go_enter Tryz.func108, Tryz.ntmps108
  go_wp2
  go_loopw [6, 22] (fun cr i wr => ∃ k q : Nat, ∃ R : List Nat, k ≤ n ∧ i = .int .i64 k ∧ cr = .int .u64 q ∧ q ≤ 1 ∧ Row wr w.heap.size R ∧ Limbs R ∧ Hid (R.length = n + 1) ∧ Hid (val (xs.take k) + val (ys.take k) = val (R.take k) + q * 4294967296 ^ k) ∧ Below w.heap.size w wr) (fun _ i _ => n - (intOf i).toNat)
  case atStart => exact ⟨0, 0, _, by omega, rfl, rfl, by omega, Row.made w (n + 1), limbs_zeros _, by simp [Hid], by simp [Hid, val], (Below.refl _ _).alloc (Nat.le_refl _) _⟩
  case round =>
    obtain ⟨k, q, R, hk, rfl, rfl, hq, hR, hL, hlen, hv, hbel⟩ := hrel
    by_cases hkn : k < n
    · obtain ⟨ad, rfl, _, x, hx, hxl, hcx⟩ := (ha.below (hbel.mono hB)).at_ hkn
      have hcr := hR.cell (k := k) (by rw [hlen.out]; omega)
      have hfr := hR.frozen k
      by_cases hkm : k < m
      · obtain ⟨ad', rfl, _, y, hy, hyl, hcy⟩ := (hb.below (hbel.mono hB')).at_ hkm
        go_wp2
        go_roundw
        case rel =>
          have e1 : (((x + q + y) % 4294967296 : Nat) : Int) = ((x : Int) + q + y) % 4294967296 := by omega
          have e2 : (((x + q + y) / 4294967296 : Nat) : Int) = ((x : Int) + q + y) / 4294967296 := by omega
          refine ⟨k + 1, (x + q + y) / 4294967296, R.set k ((x + q + y) % 4294967296), by omega, by go_num, by rw [e2], by omega, by rw [← e1]; exact hR.set k _, limbs_set hL k (by omega), by rw [Hid, List.length_set]; exact hlen.out, ?_, hbel.setCell (by simp) _⟩
          rw [Hid, val_take_succ xs, val_take_succ ys, val_set_take R k _ (by rw [hlen.out]; omega), ← hx.out, ← hy.out, Nat.pow_succ]
          exact sum_step hv.out rfl
        case measure => simp [intOf]; omega
      · go_wp2
        go_roundw
        case rel =>
          have e1 : (((x + q + 0) % 4294967296 : Nat) : Int) = ((x : Int) + q) % 4294967296 := by omega
          have e2 : (((x + q + 0) / 4294967296 : Nat) : Int) = ((x : Int) + q) / 4294967296 := by omega
          have hy : ys.getD k 0 = 0 := by rw [List.getD_eq_getElem?_getD, List.getElem?_eq_none (by rw [hb.len]; omega)]; rfl
          refine ⟨k + 1, (x + q + 0) / 4294967296, R.set k ((x + q + 0) % 4294967296), by omega, by go_num, by rw [e2], by omega, by rw [← e1]; exact hR.set k _, limbs_set hL k (by omega), by rw [Hid, List.length_set]; exact hlen.out, ?_, hbel.setCell (by simp) _⟩
          rw [Hid, val_take_succ xs, val_take_succ ys, val_set_take R k _ (by rw [hlen.out]; omega), ← hx.out, hy, Nat.pow_succ]
          exact sum_step hv.out rfl
        case measure => simp [intOf]; omega
    · obtain rfl : k = n := by omega
      have hcr := hR.cell (k := k) (by rw [hlen.out]; omega)
      have hfr := hR.frozen k
      go_wp2
      go_ret
      have hR' := hR.set k q
      have hL' := limbs_set hL k (v := q) (by omega)
      have hlen' : (R.set k q).length = k + 1 := by rw [List.length_set]; exact hlen.out
      refine ⟨R.set k q, ⟨_, _, _, rfl, hR'.len_lim hL' (k + 1) hlen' (by omega), hbel.setCell (by simp) _⟩, ?_, hlen'⟩
      have e := val_set_take R k q (by rw [hlen.out]; omega)
      rw [List.take_of_length_le (by omega)] at e
      have e2 := hv.out
      rw [List.take_of_length_le (by rw [ha.len]; exact Nat.le_refl _), List.take_of_length_le (by rw [hb.len]; exact hmn)] at e2
      rw [e, e2, Nat.mul_comm]
set_option maxHeartbeats 1000000 in
theorem sum_lt (A A' : Option Addr) (n c m d B B' : Nat) (xs ys : List Nat) (w : World) (ha : Lim w B A n c xs) (hb : Lim w B' A' m d ys) (hB : B ≤ w.heap.size) (hB' : B' ≤ w.heap.size) (hn : n ≤ 1000000) (hmn : m < n) :
    Calls Tryz.prog 108 #[.slice A' m d, .slice A n c] w fun e w' => ∃ zs, RetSl w zs e w' ∧ val zs = val xs + val ys ∧ zs.length = n + 1 := by
  have hmk : ∀ W : World, (Instr.makeSlice 22 (.int .i64 ((n : Int) + 1)) (.int .i64 ((n : Int) + 1))).run Tryz.prog W =
    .ok (.slice (some ⟨W.heap.size, 0, none⟩) (n + 1) (n + 1)) (W.alloc (.cells (madeCells #[.int .u32 0] (n + 1)) 84)) := fun W => make_u32 (n + 1) (by omega) W
  go_enter Tryz.func108, Tryz.ntmps108
  go_wp2
  go_loopw [6, 22] (fun cr i wr => ∃ k q : Nat, ∃ R : List Nat, k ≤ n ∧ i = .int .i64 k ∧ cr = .int .u64 q ∧ q ≤ 1 ∧ Row wr w.heap.size R ∧ Limbs R ∧ Hid (R.length = n + 1) ∧ Hid (val (xs.take k) + val (ys.take k) = val (R.take k) + q * 4294967296 ^ k) ∧ Below w.heap.size w wr) (fun _ i _ => n - (intOf i).toNat)
  case atStart => exact ⟨0, 0, _, by omega, rfl, rfl, by omega, Row.made w (n + 1), limbs_zeros _, by simp [Hid], by simp [Hid, val], (Below.refl _ _).alloc (Nat.le_refl _) _⟩
  case round =>
    obtain ⟨k, q, R, hk, rfl, rfl, hq, hR, hL, hlen, hv, hbel⟩ := hrel
    by_cases hkn : k < n
    · obtain ⟨ad, rfl, _, x, hx, hxl, hcx⟩ := (ha.below (hbel.mono hB)).at_ hkn
      have hcr := hR.cell (k := k) (by rw [hlen.out]; omega)
      have hfr := hR.frozen k
      by_cases hkm : k < m
      · obtain ⟨ad', rfl, _, y, hy, hyl, hcy⟩ := (hb.below (hbel.mono hB')).at_ hkm
        go_wp2
        go_roundw
        case rel =>
          have e1 : (((x + q + y) % 4294967296 : Nat) : Int) = ((x : Int) + q + y) % 4294967296 := by omega
          have e2 : (((x + q + y) / 4294967296 : Nat) : Int) = ((x : Int) + q + y) / 4294967296 := by omega
          refine ⟨k + 1, (x + q + y) / 4294967296, R.set k ((x + q + y) % 4294967296), by omega, by go_num, by rw [e2], by omega, by rw [← e1]; exact hR.set k _, limbs_set hL k (by omega), by rw [Hid, List.length_set]; exact hlen.out, ?_, hbel.setCell (by simp) _⟩
          rw [Hid, val_take_succ xs, val_take_succ ys, val_set_take R k _ (by rw [hlen.out]; omega), ← hx.out, ← hy.out, Nat.pow_succ]
          exact sum_step hv.out rfl
        case measure => simp [intOf]; omega
      · go_wp2
        go_roundw
        case rel =>
          have e1 : (((x + q + 0) % 4294967296 : Nat) : Int) = ((x : Int) + q) % 4294967296 := by omega
          have e2 : (((x + q + 0) / 4294967296 : Nat) : Int) = ((x : Int) + q) / 4294967296 := by omega
          have hy : ys.getD k 0 = 0 := by rw [List.getD_eq_getElem?_getD, List.getElem?_eq_none (by rw [hb.len]; omega)]; rfl
          refine ⟨k + 1, (x + q + 0) / 4294967296, R.set k ((x + q + 0) % 4294967296), by omega, by go_num, by rw [e2], by omega, by rw [← e1]; exact hR.set k _, limbs_set hL k (by omega), by rw [Hid, List.length_set]; exact hlen.out, ?_, hbel.setCell (by simp) _⟩
          rw [Hid, val_take_succ xs, val_take_succ ys, val_set_take R k _ (by rw [hlen.out]; omega), ← hx.out, hy, Nat.pow_succ]
          exact sum_step hv.out rfl
        case measure => simp [intOf]; omega
    · obtain rfl : k = n := by omega
      have hcr := hR.cell (k := k) (by rw [hlen.out]; omega)
      have hfr := hR.frozen k
      go_wp2
      go_ret
      have hR' := hR.set k q
      have hL' := limbs_set hL k (v := q) (by omega)
      have hlen' : (R.set k q).length = k + 1 := by rw [List.length_set]; exact hlen.out
      refine ⟨R.set k q, ⟨_, _, _, rfl, hR'.len_lim hL' (k + 1) hlen' (by omega), hbel.setCell (by simp) _⟩, ?_, hlen'⟩
      have e := val_set_take R k q (by rw [hlen.out]; omega)
      rw [List.take_of_length_le (by omega)] at e
      have e2 := hv.out
      rw [List.take_of_length_le (by rw [ha.len]; exact Nat.le_refl _), List.take_of_length_le (by rw [hb.len]; exact Nat.le_of_lt hmn)] at e2
      rw [e, e2, Nat.mul_comm]

theorem sum_any (A A' : Option Addr) (n c m d B B' : Nat) (xs ys : List Nat) (w : World) (ha : Lim w B A n c xs) (hb : Lim w B' A' m d ys) (hB : B ≤ w.heap.size) (hB' : B' ≤ w.heap.size) (hn : n ≤ 1000000) (hm : m ≤ 1000000) :
    Calls Tryz.prog 108 #[.slice A n c, .slice A' m d] w fun e w' => ∃ zs, RetSl w zs e w' ∧ val zs = val xs + val ys ∧ zs.length = max n m + 1 := by
  rcases Nat.lt_or_ge n m with h | h
  · refine (sum_lt A' A m d n c B' B ys xs w hb ha hB' hB hm h).mono ?_
    rintro e w' ⟨zs, h1, h2, h3⟩
    exact ⟨zs, h1, by omega, by omega⟩
  · refine (sum_ge A A' n c m d B B' xs ys w ha hb hB hB' hn h).mono ?_
    rintro e w' ⟨zs, h1, h2, h3⟩
    exact ⟨zs, h1, h2, by omega⟩
end Go.Proofs.YtlpoboikompjfaaGreatDoor
namespace Go.Proofs.YtlpoboikompjfaaGreatDoor
open Go.RowKit
theorem diff_digit (x y q : Nat) (hx : x < 4294967296) (hy : y < 4294967296) (hq : q ≤ 1) : ∃ q' : Nat, x + q' * 4294967296 = (x + 8589934592 - y - q) % 4294967296 + y + q ∧ q' ≤ 1 ∧
    (((x + 8589934592 - y - q) % 4294967296 : Nat) : Int) = IntKind.u64.wrap (IntKind.u64.wrap ((x : Int) - q) - y) % 4294967296 ∧ ((q' : Nat) : Int) = IntKind.u64.wrap (IntKind.u64.wrap ((x : Int) - q) - y) / 9223372036854775808 := by
  rw [IntKind.wrap_u64, IntKind.wrap_u64]
  by_cases h : x < y + q
  · exact ⟨1, by omega, by omega, by omega, by omega⟩
  · exact ⟨0, by omega, by omega, by omega, by omega⟩
set_option maxHeartbeats 1000000 in
theorem diff_any (A A' : Option Addr) (n c m d B B' : Nat) (xs ys : List Nat) (w : World) (ha : Lim w B A n c xs) (hb : Lim w B' A' m d ys) (hB : B ≤ w.heap.size) (hB' : B' ≤ w.heap.size) (hn : n ≤ 1000000) (hmn : m ≤ n) (hle : val ys ≤ val xs) :
    Calls Tryz.prog 109 #[.slice A n c, .slice A' m d] w fun e w' => ∃ zs, RetSl w zs e w' ∧ val zs = val xs - val ys ∧ zs.length = n := by
  have hmk := fun W => make_u32 n (by omega) W
  have HLE := Lib.hid hle
  clear hle
  go_enter Tryz.func109, Tryz.ntmps109
  go_wp2
  go_loopw [6, 14] (fun cr i wr => ∃ k q : Nat, ∃ R : List Nat, k ≤ n ∧ i = .int .i64 k ∧ cr = .int .u64 q ∧ q ≤ 1 ∧ Row wr w.heap.size R ∧ Limbs R ∧ Hid (R.length = n) ∧ Hid (val (xs.take k) + q * 4294967296 ^ k = val (R.take k) + val (ys.take k)) ∧ Below w.heap.size w wr) (fun _ i _ => n - (intOf i).toNat)
  case atStart => exact ⟨0, 0, _, by omega, rfl, rfl, by omega, Row.made w n, limbs_zeros _, by simp [Hid], by simp [Hid, val], (Below.refl _ _).alloc (Nat.le_refl _) _⟩
  case round =>
    obtain ⟨k, q, R, hk, rfl, rfl, hq, hR, hL, hlen, hv, hbel⟩ := hrel
    by_cases hkn : k < n
    · obtain ⟨ad, rfl, _, x, hx, hxl, hcx⟩ := (ha.below (hbel.mono hB)).at_ hkn
      have hcr := hR.cell (k := k) (by rw [hlen.out]; omega)
      have hfr := hR.frozen k
      by_cases hkm : k < m
      · obtain ⟨ad', rfl, _, y, hy, hyl, hcy⟩ := (hb.below (hbel.mono hB')).at_ hkm
        go_wp2
        go_roundw
        case rel =>
          obtain ⟨q', hq', hq1, e1, e2⟩ := diff_digit x y q hxl hyl hq
          refine ⟨k + 1, q', R.set k ((x + 8589934592 - y - q) % 4294967296), by omega, by go_num, by rw [← e2], hq1, by rw [← e1]; exact hR.set k _, limbs_set hL k (by omega), by rw [Hid, List.length_set]; exact hlen.out, ?_, hbel.setCell (by simp) _⟩
          rw [Hid, val_take_succ xs, val_take_succ ys, val_set_take R k _ (by rw [hlen.out]; omega), ← hx.out, ← hy.out, Nat.pow_succ]
          exact diff_step hv.out hq'
        case measure => simp [intOf]; omega
      · go_wp2
        go_roundw
        case rel =>
          obtain ⟨q', hq', hq1, e1, e2⟩ := diff_digit x 0 q hxl (by omega) hq
          have e3 : IntKind.u64.wrap (IntKind.u64.wrap ((x : Int) - q) - (0 : Nat)) = IntKind.u64.wrap ((x : Int) - q) := by
            rw [IntKind.wrap_u64, IntKind.wrap_u64]; omega
          rw [e3] at e1 e2
          have hy : ys.getD k 0 = 0 := by rw [List.getD_eq_getElem?_getD, List.getElem?_eq_none (by rw [hb.len]; omega)]; rfl
          refine ⟨k + 1, q', R.set k ((x + 8589934592 - 0 - q) % 4294967296), by omega, by go_num, by rw [← e2], hq1, by rw [← e1]; exact hR.set k _, limbs_set hL k (by omega), by rw [Hid, List.length_set]; exact hlen.out, ?_, hbel.setCell (by simp) _⟩
          rw [Hid, val_take_succ xs, val_take_succ ys, val_set_take R k _ (by rw [hlen.out]; omega), ← hx.out, hy, Nat.pow_succ]
          exact diff_step hv.out hq'
        case measure => simp [intOf]; omega
    · obtain rfl : k = n := by omega
      go_wp2
      go_ret
      refine ⟨R, ⟨_, _, _, rfl, hR.len_lim hL k hlen.out (by omega), hbel⟩, ?_, hlen.out⟩
      have e2 := hv.out
      rw [List.take_of_length_le (l := xs) (by rw [ha.len]; exact Nat.le_refl _), List.take_of_length_le (l := ys) (by rw [hb.len]; exact hmn), List.take_of_length_le (l := R) (by rw [hlen.out]; exact Nat.le_refl _)] at e2
      have h1 := val_lt hL
      rw [hlen.out] at h1
      have h2 := HLE.out
      have h3 : q = 0 := by
        rcases Nat.eq_zero_or_pos q with e | e
        · exact e
        · have : q = 1 := by omega
          subst this
          omega
      subst h3
      omega
end Go.Proofs.YtlpoboikompjfaaGreatDoor
namespace Go.Proofs.YtlpoboikompjfaaGreatDoor
open Go.RowKit

set_option maxHeartbeats 400000 in
theorem compareI (a b : Int) (w : World) : Calls Tryz.prog 133 #[.int .i64 a, .int .i64 b] w fun e w' => e = .returned (.int .i64 (cmpN a b)) ∧ Drawn w w' := by
  unfold cmpN
  by_cases h1 : a < b
  · rw [if_pos h1]
    go_enter Tryz.func133, Tryz.ntmps133
    go_wp2
    go_ret
    exact ⟨rfl, Drawn.refl _⟩
  · rw [if_neg h1]
    by_cases h2 : b < a
    · rw [if_pos h2]
      go_enter Tryz.func133, Tryz.ntmps133
      go_wp2
      go_ret
      exact ⟨rfl, Drawn.refl _⟩
    · rw [if_neg h2]
      go_enter Tryz.func133, Tryz.ntmps133
      go_wp2
      go_ret
      exact ⟨rfl, Drawn.refl _⟩
set_option maxHeartbeats 400000 in
theorem compareU (a b : Int) (w : World) : Calls Tryz.prog 134 #[.int .u32 a, .int .u32 b] w fun e w' => e = .returned (.int .i64 (cmpN a b)) ∧ Drawn w w' := by
  unfold cmpN
  by_cases h1 : a < b
  · rw [if_pos h1]
    go_enter Tryz.func134, Tryz.ntmps134
    go_wp2
    go_ret
    exact ⟨rfl, Drawn.refl _⟩
  · rw [if_neg h1]
    by_cases h2 : b < a
    · rw [if_pos h2]
      go_enter Tryz.func134, Tryz.ntmps134
      go_wp2
      go_ret
      exact ⟨rfl, Drawn.refl _⟩
    · rw [if_neg h2]
      go_enter Tryz.func134, Tryz.ntmps134
      go_wp2
      go_ret
      exact ⟨rfl, Drawn.refl _⟩
set_option maxHeartbeats 400000 in
theorem order_any (A A' : Option Addr) (n c m d B B' : Nat) (xs ys : List Nat) (w : World) (ha : Lim w B A n c xs) (hb : Lim w B' A' m d ys) :
    Calls Tryz.prog 113 #[.slice A n c, .slice A' m d] w fun e w' => e = .returned (.int .i64 (ordV xs ys)) ∧ Drawn w w' := by
  have hn := ha.cap
  have hm := hb.cap
  have hn' : n ≤ 9223372036854775807 := by omega
  have hm' : m ≤ 9223372036854775807 := by omega
  clear hn hm
  by_cases hnm : n = m
  · subst hnm
    have HL : Hid (xs.length = n ∧ ys.length = n) := ⟨ha.len, hb.len⟩
    have hLx : Limbs xs := ha.lt
    have hLy : Limbs ys := hb.lt
    go_enter Tryz.func113, Tryz.ntmps113
    go_wp2
    go_loopw [5] (fun i wr => ∃ k : Int, -1 ≤ k ∧ k < n ∧ i = .int .i64 k ∧ Hid (∀ j : Nat, k < j → j < n → xs.getD j 0 = ys.getD j 0) ∧ Drawn w wr) (fun i _ => (intOf i + 1).toNat)
    case atStart => exact ⟨n - 1, by omega, by omega, rfl, fun j h1 h2 => absurd h1 (by omega), Drawn.refl w⟩
    case round =>
      obtain ⟨k, hk, hkn, rfl, hgt, hd⟩ := hrel
      by_cases h0 : 0 ≤ k
      · obtain ⟨k, rfl⟩ := Int.eq_ofNat_of_zero_le h0
        have hkn' : k < n := by omega
        obtain ⟨ad, rfl, _, x, hx, hxl, hcx⟩ := (ha.drawn hd).at_ hkn'
        obtain ⟨ad', rfl, _, y, hy, hyl, hcy⟩ := (hb.drawn hd).at_ hkn'
        by_cases hxy : x = y
        · have hb1 : ((x : Int) != y) = false := by simp [hxy]
          have HXY := Lib.hid hxy
          clear hxy
          go_wp2
          go_quiet (fail)
          go_wp2
          go_roundw
          case rel =>
            refine ⟨k - 1, by omega, by omega, rfl, fun j h1 h2 => ?_, hd.drewN _⟩
            rcases Nat.eq_or_lt_of_le (show k ≤ j by omega) with e | e
            · subst e; rw [← hx.out, ← hy.out, HXY.out]
            · exact hgt.out j (by omega) h2
          case measure => simp [intOf] <;> omega
        · have hb1 : ((x : Int) != y) = true := by simp; omega
          have hb2 := Lib.hid hxy
          clear hxy
          go_wp2
          go_quiet (fail)
          go_wp2
          go_quiet ((go_at_call 134; exact quietDD (compareU _ _ _)))
          go_wp2
          go_ret
          refine ⟨retI ?_, ?_⟩
          · rw [hx.out, hy.out, ordV_at hLx hLy (by rw [HL.out.1, HL.out.2]) k (by rw [HL.out.1]; omega) (fun j h1 h2 => hgt.out j (by omega) (by rw [HL.out.1] at h2; exact h2))]
            rw [← hx.out, ← hy.out]; exact hb2.out
          · exact (hd.drewN _).drewN _
      · obtain rfl : k = -1 := by omega
        go_wp2
        go_ret
        refine ⟨retI ?_, hd⟩
        rw [ordV_eq (by rw [HL.out.1, HL.out.2]) (fun j h1 => hgt.out j (by omega) (by rw [HL.out.1] at h1; exact h1))]
  · have hv : ordV xs ys = cmpN n m := by unfold ordV; rw [ha.len, hb.len, if_neg hnm]
    have HV := Lib.hid hv
    have hb1 : ((n : Int) == m) = false := by simp; omega
    clear hv ha hb
    go_enter Tryz.func113, Tryz.ntmps113
    go_wp2_with fail
    refine (compareI _ _ _).mono ?_
    rintro e w1 ⟨rfl, hd⟩
    go_wp2
    go_ret
    exact ⟨retI (by rw [HV.out]), hd⟩
end Go.Proofs.YtlpoboikompjfaaGreatDoor
namespace Go.Proofs.YtlpoboikompjfaaGreatDoor
open Go.RowKit
set_option maxHeartbeats 400000 in
theorem less_any (A A' : Option Addr) (n c m d B B' : Nat) (xs ys : List Nat) (w : World) (ha : Lim w B A n c xs) (hb : Lim w B' A' m d ys) :
    Calls Tryz.prog 78 #[.slice A n c, .slice A' m d] w fun e w' => e = .returned (.bool (lessV xs ys)) ∧ Drawn w w' := by
  have hn := ha.cap
  have hm := hb.cap
  have hn' : n ≤ 9223372036854775807 := by omega
  have hm' : m ≤ 9223372036854775807 := by omega
  clear hn hm
  by_cases hnm : n = m
  · subst hnm
    have HL : Hid (xs.length = n ∧ ys.length = n) := ⟨ha.len, hb.len⟩
    have hLx : Limbs xs := ha.lt
    have hLy : Limbs ys := hb.lt
    go_enter Tryz.func78, Tryz.ntmps78
    go_wp2
    go_loopw [5] (fun i wr => ∃ k : Int, -1 ≤ k ∧ k < n ∧ i = .int .i64 k ∧ Hid (∀ j : Nat, k < j → j < n → xs.getD j 0 = ys.getD j 0) ∧ Drawn w wr) (fun i _ => (intOf i + 1).toNat)
    case atStart => exact ⟨n - 1, by omega, by omega, rfl, fun j h1 h2 => absurd h1 (by omega), Drawn.refl w⟩
    case round =>
      obtain ⟨k, hk, hkn, rfl, hgt, hd⟩ := hrel
      by_cases h0 : 0 ≤ k
      · obtain ⟨k, rfl⟩ := Int.eq_ofNat_of_zero_le h0
        have hkn' : k < n := by omega
        obtain ⟨ad, rfl, _, x, hx, hxl, hcx⟩ := (ha.drawn hd).at_ hkn'
        obtain ⟨ad', rfl, _, y, hy, hyl, hcy⟩ := (hb.drawn hd).at_ hkn'
        by_cases hxy : x = y
        · have hb1 : ((x : Int) != y) = false := by simp [hxy]
          have HXY := Lib.hid hxy
          clear hxy
          go_wp2
          go_quiet (fail)
          go_wp2
          go_roundw
          case rel =>
            refine ⟨k - 1, by omega, by omega, rfl, fun j h1 h2 => ?_, hd.drewN _⟩
            rcases Nat.eq_or_lt_of_le (show k ≤ j by omega) with e | e
            · subst e; rw [← hx.out, ← hy.out, HXY.out]
            · exact hgt.out j (by omega) h2
          case measure => simp [intOf] <;> omega
        · have hb1 : ((x : Int) != y) = true := by simp; omega
          have hb2 := Lib.hid hxy
          clear hxy
          go_wp2
          go_quiet (fail)
          go_wp2
          go_quiet (fail)
          go_wp2
          go_ret
          refine ⟨retB ?_, (hd.drewN _).drewN _⟩
          rw [lessV_at hLx hLy (by rw [HL.out.1, HL.out.2]) k (by rw [HL.out.1]; omega) (fun j h1 h2 => hgt.out j (by omega) (by rw [HL.out.1] at h2; exact h2)) (by rw [← hx.out, ← hy.out]; exact hb2.out)]
          rw [← hx.out, ← hy.out]
          try (first | rfl | (congr 1; simp))
      · obtain rfl : k = -1 := by omega
        go_wp2
        go_ret
        refine ⟨retB ?_, hd⟩
        rw [lessV_eq (by rw [HL.out.1, HL.out.2]) (fun j h1 => hgt.out j (by omega) (by rw [HL.out.1] at h1; exact h1))]
  · have hv : lessV xs ys = decide (n < m) := by unfold lessV; rw [ha.len, hb.len, if_neg hnm]
    have HV := Lib.hid hv
    clear hv ha hb
    go_enter Tryz.func78, Tryz.ntmps78
    go_wp2
    go_ret
    refine ⟨retB ?_, Drawn.refl _⟩
    rw [HV.out]

set_option maxHeartbeats 400000 in
theorem same_any (neg neg' : Bool) (A A' : Option Addr) (n c m d : Nat) (a b : Int) (w : World) (ha : IsInt w neg A n c a) (hb : IsInt w neg' A' m d b) :
    Calls Tryz.prog 29 #[.agg #[.bool neg, .slice A n c], .agg #[.bool neg', .slice A' m d]] w fun e w' => e = .returned (.bool (decide (a = b))) ∧ Below w.heap.size w w' := by
  have L1 := fun W (hW : Below w.heap.size w W) => less_any A A' n c m d _ _ _ _ W (ha.lim.below hW) (hb.lim.below hW)
  have L2 := fun W (hW : Below w.heap.size w W) => less_any A' A m d n c _ _ _ _ W (hb.lim.below hW) (ha.lim.below hW)
  rw [lessV_digs] at L1 L2
  have hs := ha.sign
  have hs' := hb.sign
  have L1' := Lib.hid L1
  have L2' := Lib.hid L2
  have HS := Lib.hid hs
  have HS' := Lib.hid hs'
  clear L1 L2 ha hb hs hs'
  by_cases hn : neg = neg'
  · subst hn
    have HB := ((Below.refl w.heap.size w).alloc (Nat.le_refl _) (.cells #[.bool neg, .slice A n c] 26)).alloc (by simp) (.cells #[.bool neg, .slice A' m d] 26)
    by_cases h1 : a.natAbs < b.natAbs
    · rw [decide_eq_true h1] at L1'
      have e : decide (a = b) = false := decide_eq_false (by omega)
      rw [e]
      clear e h1 L2'
      go_enter Tryz.func29, Tryz.ntmps29
      go_wp2_with fail
      refine (L1'.out _ HB).mono ?_
      rintro e w1 ⟨rfl, hd1⟩
      go_wp2
      go_ret
      exact ⟨rfl, HB.trans (hd1.below _)⟩
    · rw [decide_eq_false h1] at L1'
      have e : decide (a = b) = !decide (b.natAbs < a.natAbs) := by
        have e1 := HS.out
        have e2 := HS'.out
        rw [e1] at e2
        by_cases h2 : b.natAbs < a.natAbs
        · rw [decide_eq_true h2, decide_eq_false (by omega)]; rfl
        · have : (a < 0) ↔ (b < 0) := by simpa using e2
          rw [decide_eq_false h2, decide_eq_true (by omega)]; rfl
      rw [e]
      generalize decide (b.natAbs < a.natAbs) = t at *
      clear e h1
      go_enter Tryz.func29, Tryz.ntmps29
      go_wp2_with fail
      refine (L1'.out _ HB).mono ?_
      rintro e w1 ⟨rfl, hd1⟩
      have hb1 := hd1.below (w.heap.size + 1 + 1)
      obtain ⟨hc1, _⟩ := bcell hb1
      go_wp2_with fail
      refine (L2'.out _ (HB.trans (hd1.below _))).mono ?_
      rintro e w2 ⟨rfl, hd2⟩
      go_wp2
      go_ret
      exact ⟨rfl, (HB.trans (hd1.below _)).trans (hd2.below _)⟩
  · have e : decide (a = b) = false := by
      refine decide_eq_false fun h => hn ?_
      rw [HS.out, HS'.out, h]
    have hb1 : (neg == neg') = false := by simpa using hn
    rw [e]
    clear e hn
    go_enter Tryz.func29, Tryz.ntmps29
    go_wp2
    go_ret
    exact ⟨rfl, ((Below.refl _ _).alloc (Nat.le_refl _) _).alloc (by simp) _⟩
end Go.Proofs.YtlpoboikompjfaaGreatDoor
namespace Go.Proofs.YtlpoboikompjfaaGreatDoor
open Go.RowKit
set_option maxHeartbeats 400000 in
theorem word_any (A : Option Addr) (n c B : Nat) (xs : List Nat) (w : World) (ha : Lim w B A n c xs) :
    Calls Tryz.prog 128 #[.slice A n c] w fun e w' => e = .returned (.tuple #[.int .u64 ((if n ≤ 2 then val xs else 0 : Nat) : Int), .bool (decide (n ≤ 2))]) ∧ Drawn w w' := by
  have hl := ha.len
  rcases n with _ | _ | _ | n
  · have hx : xs = [] := List.eq_nil_of_length_eq_zero hl
    subst hx
    go_enter Tryz.func128, Tryz.ntmps128
    go_wp2
    go_ret2
    exact ⟨by simp [val], Drawn.refl _⟩
  · obtain ⟨ad, rfl, _, x, hx, hxl, hcx⟩ := ha.at_ (show 0 < 1 by omega)
    have hv : (if 0 + 1 ≤ 2 then val xs else 0) = x := by
      match xs, hl with
      | [a], _ => simp [val, hx.out]
    rw [hv]
    have hc0 : w.cell? ad = some (.int .u32 (x : Int)) := hcx
    clear hv hcx hl
    go_enter Tryz.func128, Tryz.ntmps128
    go_wp2
    go_ret2
    exact ⟨rfl, Drawn.refl _⟩
  · obtain ⟨ad, rfl, _, x, hx, hxl, hcx⟩ := ha.at_ (show 0 < 2 by omega)
    obtain ⟨ad', e, _, y, hy, hyl, hcy⟩ := ha.at_ (show 1 < 2 by omega)
    obtain rfl := Option.some.inj e
    have hv : (if 0 + 1 + 1 ≤ 2 then val xs else 0) = x + 4294967296 * y := by
      match xs, hl with
      | [a, b], _ => simp [val, hx.out, hy.out]
    rw [hv]
    have hc0 : w.cell? ad = some (.int .u32 (x : Int)) := hcx
    have hc1 : w.cell? { block := ad.block, off := ad.off + 1 } = some (.int .u32 (y : Int)) := hcy
    clear hv hcx hcy hl
    go_enter Tryz.func128, Tryz.ntmps128
    go_wp2
    go_quiet (fail)
    go_wp2
    go_ret2
    exact ⟨retT (or_limbs x y hxl hyl), Drawn.refl _ |>.drewN _⟩
  · have hv : (if n + 1 + 1 + 1 ≤ 2 then val xs else 0) = 0 := if_neg (by omega)
    have hv2 : decide (n + 1 + 1 + 1 ≤ 2) = false := decide_eq_false (by omega)
    rw [hv, hv2]
    have b1 : ((n : Int) + 1 + 1 + 1 == 0) = false := by simp; omega
    have b2 : ((n : Int) + 1 + 1 + 1 == 1) = false := by simp; omega
    have b3 : ((n : Int) + 1 + 1 + 1 == 2) = false := by simp; omega
    clear hv hv2 hl
    go_enter Tryz.func128, Tryz.ntmps128
    go_wp2
    go_ret2
    exact ⟨rfl, Drawn.refl _⟩
end Go.Proofs.YtlpoboikompjfaaGreatDoor
