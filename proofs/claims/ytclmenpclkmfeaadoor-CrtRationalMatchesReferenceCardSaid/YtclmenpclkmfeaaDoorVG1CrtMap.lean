/- A map of the call's own outlives what leaves its block alone. A rule for a region whose operations come in any order that its edges allow: one proof for each operation, by what holds once a set of operations is done. Conditions: as the theorem states. Words for statements that assign several integers at once: values that are integers, structs of the call's own that hold them. Contract of crt's table.residue. Plain mathematics of Euclid's extended algorithm. Plain mathematics: Fermat's little theorem by the binomial theorem, and a test of primes by trial division. Plain mathematics of residues: inverses by Euclid's algorithm, powers by squaring. Contract of integer.sum. Contract of integer.difference. -/
import Derived.Maps.Own
import Derived.Test.YtclmenpclkmfeaaDoorVG0Words
import Derived.RegionTactic
import Derived.Maps.OwnOps
namespace Go.Proofs.YtclmenpclkmfeaaDoor
open Go.RowKit Go.Maps
theorem ownsMap_below {H : Type} {w w' : World} {P : Program} {k : TypeId} {R : Value → Option (DataW H × List MemPlace)} {b n : Nat} {D : DataW H} (h : w.ownsMap P k R b n D) (hb : Below w.heap.size w w') : w'.ownsMap P k R b n D := by
  have hl := h.lt
  obtain ⟨es, c, h1, h2⟩ := h
  exact ⟨es, c, (hb.block b hl).trans h1, h2⟩
theorem ownsMap_set {H : Type} {w : World} {P : Program} {k : TypeId} {R : Value → Option (DataW H × List MemPlace)} {b n : Nat} {D : DataW H} (h : w.ownsMap P k R b n D) {a : Addr} (hne : b ≠ a.block) (u : Value) : (w.setCell a u).ownsMap P k R b n D := by
  obtain ⟨es, c, h1, h2⟩ := h
  exact ⟨es, c, (Below.heap_setCell w a u b hne).trans h1, h2⟩
end Go.Proofs.YtclmenpclkmfeaaDoor
namespace Go.Proofs.YtclmenpclkmfeaaDoor
open Go.RowKit
theorem cnt_le (n : Nat) (f g : Nat → Bool) (h : ∀ j, g j = true → f j = true) : (List.range n).countP g ≤ (List.range n).countP f :=
  List.countP_mono_left fun x _ hx => h x hx
theorem cnt_lt (n i : Nat) (f g : Nat → Bool) (hi : i < n) (h : ∀ j, g j = true → f j = true) (hf : f i = true) (hg : g i = false) : (List.range n).countP g < (List.range n).countP f := by
  induction n with
  | zero => omega
  | succ n ih =>
    rw [List.range_succ, List.countP_append, List.countP_append]
    by_cases e : i = n
    · subst e
      have := cnt_le i f g h
      simp [hf, hg]; omega
    · have := ih (by omega)
      have h2 : List.countP g [n] ≤ List.countP f [n] := List.countP_mono_left fun x _ hx => h x hx
      omega
/-- All of an operation's edges have been met. -/
def Met_ (done : Nat → Bool) (o : Oper) : Prop := ∀ e ∈ o.after, Region.binds .any e = true → done e.on = true
/-- What one operation has to do. -/
def StepEv (P : Program) (ops : Array Oper) (Q : Exit → Act → World → Prop) (J : (Nat → Bool) → Act → World → Prop) (i : Nat) (o : Oper) : Prop :=
  ∀ (done : Nat → Bool) (a : Act) (w : World), done i = false → Met_ done o → J done a w → ∀ K : Act → World → Prop, Shut (∀ a' w', J (fun j => done j || j == i) a' w' → K a' w') →
    if Region.wanted o (yielded ops a.tmps) = true then Oper.wp P o a w K Q else K (a.put o.dst undef) w
/-- Every edge goes back. -/
def forwardB (ops : Array Oper) : Bool := (List.range ops.size).all fun i => match ops[i]? with
  | some o => o.after.all fun e => !Region.binds .any e || decide (e.on < i)
  | none => true
theorem forward_spec {ops : Array Oper} (h : forwardB ops = true) {i : Nat} {o : Oper} (ho : ops[i]? = some o) {e : Edge} (he : e ∈ o.after) (hb : Region.binds .any e = true) : e.on < i := by
  have hlt : i < ops.size := (Array.getElem?_eq_some_iff.1 ho).1
  simp only [forwardB, List.all_eq_true, List.mem_range] at h
  have h1 := h i hlt
  rw [ho] at h1
  have h2 := (Array.all_eq_true_iff_forall_mem.1 h1) e he
  simpa [hb] using h2
theorem all_of_none {ops : Array Oper} (h : forwardB ops = true) {listed : Array Bool} (hs : listed.size = ops.size) (hr : Region.ready .any ops listed = []) : ∀ i, i < ops.size → listed.getD i false = true := by
  intro i
  induction i using Nat.strongRecOn with
  | ind i ih =>
    intro hi
    cases hl : listed.getD i false with
    | true => rfl
    | false =>
      exfalso
      have hmem : i ∈ Region.ready .any ops listed := by
        rw [mem_ready]
        refine ⟨?_, ops[i], Array.getElem?_eq_getElem hi, fun e he hb => ?_⟩
        · have h2 : i < listed.size := by omega
          simp [h2] at hl ⊢
          exact hl
        · exact ih e.on (forward_spec h (Array.getElem?_eq_getElem hi) he hb) (by have := forward_spec h (Array.getElem?_eq_getElem hi) he hb; omega)
      rw [hr] at hmem
      cases hmem
theorem wpAny_ev {P : Program} {ops : Array Oper} {Q : Exit → Act → World → Prop} (h : forwardB ops = true) (J : (Nat → Bool) → Act → World → Prop)
    (hJ : ∀ d d' : Nat → Bool, (∀ i, d i = d' i) → ∀ a w, J d a w → J d' a w)
    (step : ∀ i o, ops[i]? = some o → StepEv P ops Q J i o) (fin : ∀ done a w, (∀ i, i < ops.size → done i = true) → J done a w → Q .normal a w) :
    ∀ fuel (listed : Array Bool) a w, listed.size = ops.size → (List.range ops.size).countP (fun j => !listed.getD j false) ≤ fuel → J (fun j => listed.getD j false) a w → wpAny P .any ops Q fuel listed a w := by
  intro fuel
  induction fuel with
  | zero =>
    intro listed a w hs hc hj
    have hall : ∀ i, i < ops.size → listed.getD i false = true := by
      intro i hi
      have h0 := List.countP_eq_zero.1 (Nat.le_zero.1 hc) i (List.mem_range.2 hi)
      simpa using h0
    refine ⟨?_, fin _ a w hall hj⟩
    rcases hr : Region.ready .any ops listed with _ | ⟨i, l⟩
    · rfl
    · have hmem : i ∈ Region.ready .any ops listed := by rw [hr]; exact List.mem_cons_self
      rw [mem_ready] at hmem
      obtain ⟨h1, o, ho, _⟩ := hmem
      have hi : i < ops.size := (Array.getElem?_eq_some_iff.1 ho).1
      have h2 := hall i hi
      have h3 : i < listed.size := by omega
      simp [h3] at h1 h2
      rw [h1] at h2
      cases h2
  | succ fuel ih =>
    intro listed a w hs hc hj
    refine ⟨fun hr => fin _ a w (all_of_none h hs hr) hj, fun i hmem => ?_⟩
    rw [mem_ready] at hmem
    obtain ⟨h1, o, ho, hall⟩ := hmem
    have hi : i < ops.size := (Array.getElem?_eq_some_iff.1 ho).1
    have h3 : i < listed.size := by omega
    have h0 : listed.getD i false = false := by simp [h3] at h1 ⊢; exact h1
    refine wpOp_step ho fun K hK => ?_
    refine step i o ho (fun j => listed.getD j false) a w h0 hall hj K fun a' w' hj' => hK a' w' ?_
    refine ih (listed.setIfInBounds i true) a' w' (by simpa using hs) ?_ (hJ _ _ (fun j => ?_) a' w' hj')
    · have := cnt_lt ops.size i (fun j => !listed.getD j false) (fun j => !(listed.setIfInBounds i true).getD j false) hi (fun j hj => ?_) (by simp only [h0]; rfl) (by simp [h3])
      · omega
      · by_cases e : i = j
        · subst e; simp [h3] at hj
        · rwa [_root_.Go.getD_set_ne false e] at hj
    · by_cases e : i = j
      · subst e; simp [h3]
      · rw [_root_.Go.getD_set_ne false e]
        have : (j == i) = false := by simp; omega
        simp [this]
/-- One proof for each of a list's operations. -/
def StepsEv (P : Program) (ops : Array Oper) (Q : Exit → Act → World → Prop) (J : (Nat → Bool) → Act → World → Prop) : Nat → List Oper → Prop
  | _, [] => True
  | k, o :: l => StepEv P ops Q J k o ∧ StepsEv P ops Q J (k + 1) l
theorem steps_get {P : Program} {ops : Array Oper} {Q : Exit → Act → World → Prop} {J : (Nat → Bool) → Act → World → Prop} : ∀ (l : List Oper) (k i : Nat) (o : Oper), StepsEv P ops Q J k l → l[i]? = some o → StepEv P ops Q J (k + i) o
  | [], _, _, _, _, h => by simp at h
  | x :: l, k, 0, o, hs, h => by
    simp at h; subst h; exact hs.1
  | x :: l, k, i + 1, o, hs, h => by
    have := steps_get l (k + 1) i o hs.2 (by simpa using h)
    rwa [show k + 1 + i = k + (i + 1) by omega] at this
/-- THE RULE: what holds once a set of operations is done (J: of the frame at the region's head, the frame and the world). -/
theorem wp_region_ev {P : Program} {ops : List Oper} {id : Nat} {Q : Exit → Act → World → Prop} {a : Act} {w : World} (J : (Nat → Bool) → Act → Act → World → Prop) (hm : P.follows .mixedOrders = true) (h : forwardB ops.toArray = true)
    (hJ : ∀ d d' : Nat → Bool, (∀ i, d i = d' i) → ∀ a' w', J d a a' w' → J d' a a' w')
    (init : J (fun _ => false) a a w.drew) (steps : StepsEv P ops.toArray Q (fun d => J d a) 0 ops) (fin : ∀ done a' w', (∀ i, i < ops.length → done i = true) → J done a a' w' → Q .normal a' w') : (Code.region id ops.toArray true).wp P Q a w := by
  refine wp_region_any hm ?_
  refine wpAny_ev h (fun d => J d a) hJ (fun i o ho => ?_) (fun done a' w' hall hj => fin done a' w' (by simpa using hall) hj) _ _ _ _ (by simp) ?_ (hJ _ _ (fun i => ?_) _ _ init)
  · have := steps_get (P := P) (ops := ops.toArray) (Q := Q) ops 0 i o steps (by simpa using ho)
    rwa [Nat.zero_add] at this
  · refine Nat.le_trans List.countP_le_length (by simp)
  · by_cases e : i < ops.length <;> simp [e]
end Go.Proofs.YtclmenpclkmfeaaDoor
namespace Go.Proofs.YtclmenpclkmfeaaDoor
open Go.RowKit
/-- The struct at block g holds the valid integer z. -/
def IntAt (w : World) (g : Nat) (z : Int) : Prop := ∃ neg A n c, Slot2 w g (.bool neg) (.slice A n c) ∧ IsInt w neg A n c z
theorem IntAt.after {w w' : World} {g : Nat} {z : Int} (h : IntAt w g z) (hb : Below w.heap.size w w') : IntAt w' g z := by
  obtain ⟨neg, A, n, c, h1, h2⟩ := h
  exact ⟨neg, A, n, c, h1.after hb, h2.below hb⟩
theorem IntAt.new {w : World} {neg : Bool} {A : Option Addr} {n c : Nat} {z : Int} (h : IsInt w neg A n c z) : IntAt (w.alloc (.cells #[.bool neg, .slice A n c] 28)) w.heap.size z :=
  ⟨neg, A, n, c, Slot2.new w _ _ _, h.below ((Below.refl _ _).alloc (Nat.le_refl _) _)⟩
def Bag (w : World) (l : List (Nat × Int)) : Prop := ∀ p ∈ l, IntAt w p.1 p.2
theorem Bag.after {w w' : World} {l : List (Nat × Int)} (h : Bag w l) (hb : Below w.heap.size w w') : Bag w' l := fun p hp => (h p hp).after hb
theorem Bag.cons {w : World} {g : Nat} {z : Int} {l : List (Nat × Int)} (h : IntAt w g z) (hl : Bag w l) : Bag w ((g, z) :: l) := by
  intro p hp
  rcases List.mem_cons.1 hp with rfl | hp
  · exact h
  · exact hl p hp
theorem bag_nil (w : World) : Bag w [] := fun p hp => by cases hp
theorem Bag.new {w : World} {neg : Bool} {A : Option Addr} {n c : Nat} {z : Int} {l : List (Nat × Int)} (hl : Bag w l) (h : IsInt w neg A n c z) : Bag (w.alloc (.cells #[.bool neg, .slice A n c] 28)) ((w.heap.size, z) :: l) :=
  Bag.cons (IntAt.new h) (hl.after ((Below.refl _ _).alloc (Nat.le_refl _) _))
/-- The value v is the valid integer z. -/
def IntV (w : World) (v : Value) (z : Int) : Prop := ∃ neg A n c, v = .agg #[.bool neg, .slice A n c] ∧ IsInt w neg A n c z
theorem IntV.below {w w' : World} {v : Value} {z : Int} (h : IntV w v z) (hb : Below w.heap.size w w') : IntV w' v z := by
  obtain ⟨neg, A, n, c, e, hi⟩ := h
  exact ⟨neg, A, n, c, e, hi.below hb⟩
theorem IntV.drew {w : World} {v : Value} {z : Int} (h : IntV w v z) : IntV w.drew v z := h.below (Below.refl _ _).drew
/-- The pointer v points to a struct of two cells of the call's own, made since B: not yet written, or holding the integer z. -/
def OwnP (B : Nat) (w : World) (v : Value) (st : Bool) (z : Int) : Prop := ∃ g, v = .pointer (some ⟨g, 0, none⟩) ∧ B ≤ g ∧ ∃ a0 a1, Slot2 w g a0 a1 ∧ noLimb a0 = true ∧ noLimb a1 = true ∧ (st = true → IntV w (.agg #[a0, a1]) z)
theorem OwnP.below {B : Nat} {w w' : World} {v : Value} {st : Bool} {z : Int} (h : OwnP B w v st z) (hb : Below w.heap.size w w') : OwnP B w' v st z := by
  obtain ⟨g, e, hg, a0, a1, hs, n0, n1, hi⟩ := h
  exact ⟨g, e, hg, a0, a1, hs.after hb, n0, n1, fun h => (hi h).below hb⟩
/-- A new struct. -/
theorem OwnP.new {B : Nat} {w : World} (hB : B ≤ w.heap.size) (z : Int) : OwnP B (w.alloc (.cells #[.bool false, .slice none 0 0] 28)) (.pointer (some ⟨w.heap.size, 0, none⟩)) false z :=
  ⟨_, rfl, hB, _, _, Slot2.new w _ _ _, rfl, rfl, fun h => by cases h⟩
theorem IsInt.set2 {w : World} {neg : Bool} {A : Option Addr} {n c : Nat} {z : Int} (h : IsInt w neg A n c z) {g : Nat} {a0 a1 : Value} (hs : Slot2 w g a0 a1) (n0 : noLimb a0 = true) (n1 : noLimb a1 = true) (u0 u1 : Value) :
    IsInt ((w.setCell ⟨g, 0, none⟩ u0).setCell ⟨g, 1, none⟩ u1) neg A n c z := h.stored hs.1 hs.2.1 n0 n1 u0 u1
theorem IntV.set2 {w : World} {v : Value} {z : Int} (h : IntV w v z) {g : Nat} {a0 a1 : Value} (hs : Slot2 w g a0 a1) (n0 : noLimb a0 = true) (n1 : noLimb a1 = true) (u0 u1 : Value) : IntV ((w.setCell ⟨g, 0, none⟩ u0).setCell ⟨g, 1, none⟩ u1) v z := by
  obtain ⟨neg, A, n, c, e, hi⟩ := h
  exact ⟨neg, A, n, c, e, hi.set2 hs n0 n1 u0 u1⟩
/-- A tuple of two integers and a code. -/
def TupV (w : World) (v : Value) (q r : Int) (e : Int) : Prop := ∃ v1 v2, v = .tuple #[v1, v2, .int .i64 e] ∧ IntV w v1 q ∧ IntV w v2 r
theorem TupV.below {w w' : World} {v : Value} {q r e : Int} (h : TupV w v q r e) (hb : Below w.heap.size w w') : TupV w' v q r e := by
  obtain ⟨v1, v2, e1, h1, h2⟩ := h
  exact ⟨v1, v2, e1, h1.below hb, h2.below hb⟩
theorem TupV.set2 {w : World} {v : Value} {q r e : Int} (h : TupV w v q r e) {g : Nat} {a0 a1 : Value} (hs : Slot2 w g a0 a1) (n0 : noLimb a0 = true) (n1 : noLimb a1 = true) (u0 u1 : Value) : TupV ((w.setCell ⟨g, 0, none⟩ u0).setCell ⟨g, 1, none⟩ u1) v q r e := by
  obtain ⟨v1, v2, e1, h1, h2⟩ := h
  exact ⟨v1, v2, e1, h1.set2 hs n0 n1 u0 u1, h2.set2 hs n0 n1 u0 u1⟩
/-- A store of an integer into one of them leaves the others. -/
theorem OwnP.far {B : Nat} {w : World} {v : Value} {st : Bool} {z : Int} (h : OwnP B w v st z) {g : Nat} (hne : v ≠ .pointer (some ⟨g, 0, none⟩)) {a0 a1 : Value} (hs : Slot2 w g a0 a1) (n0 : noLimb a0 = true) (n1 : noLimb a1 = true) (u0 u1 : Value) :
    OwnP B ((w.setCell ⟨g, 0, none⟩ u0).setCell ⟨g, 1, none⟩ u1) v st z := by
  obtain ⟨g', e, hg, b0, b1, hs', m0, m1, hi⟩ := h
  have hgg : g' ≠ g := fun h => hne (by rw [e, h])
  exact ⟨g', e, hg, b0, b1, hs'.far2 hgg u0 u1, m0, m1, fun h => (hi h).set2 hs n0 n1 u0 u1⟩
theorem OwnP.near {B : Nat} {w : World} {g : Nat} {z : Int} {neg : Bool} {A : Option Addr} {n c : Nat} (hi : IsInt w neg A n c z) (hg : B ≤ g) {a0 a1 : Value} (hs : Slot2 w g a0 a1) (n0 : noLimb a0 = true) (n1 : noLimb a1 = true) :
    OwnP B ((w.setCell ⟨g, 0, none⟩ (.bool neg)).setCell ⟨g, 1, none⟩ (.slice A n c)) (.pointer (some ⟨g, 0, none⟩)) true z :=
  ⟨g, rfl, hg, _, _, hs.set2 _ _, rfl, rfl, fun _ => ⟨neg, A, n, c, rfl, hi.set2 hs n0 n1 _ _⟩⟩
theorem OwnP.intAt {B : Nat} {w : World} {v : Value} {z : Int} (h : OwnP B w v true z) : ∃ g, v = .pointer (some ⟨g, 0, none⟩) ∧ IntAt w g z := by
  obtain ⟨g, e, _, a0, a1, hs, _, _, hi⟩ := h
  obtain ⟨neg, A, n, c, e2, hz⟩ := hi rfl
  have e3 : a0 = .bool neg ∧ a1 = .slice A n c := by simpa using e2
  rw [e3.1, e3.2] at hs
  exact ⟨g, e, neg, A, n, c, hs, hz⟩
theorem OwnP.intAtB {B : Nat} {w : World} {v : Value} {z : Int} (h : OwnP B w v true z) : ∃ g, v = .pointer (some ⟨g, 0, none⟩) ∧ IntAt w g z ∧ B ≤ g := by
  obtain ⟨g, e, hB, a0, a1, hs, _, _, hi⟩ := h
  obtain ⟨neg, A, n, c, e2, hz⟩ := hi rfl
  have e3 : a0 = .bool neg ∧ a1 = .slice A n c := by simpa using e2
  rw [e3.1, e3.2] at hs
  exact ⟨g, e, ⟨neg, A, n, c, hs, hz⟩, hB⟩
theorem IntAt.far2 {w : World} {g g' : Nat} {z : Int} (h : IntAt w g z) (hne : g ≠ g') {a0 a1 : Value} (hs : Slot2 w g' a0 a1) (n0 : noLimb a0 = true) (n1 : noLimb a1 = true) (u0 u1 : Value) : IntAt ((w.setCell ⟨g', 0, none⟩ u0).setCell ⟨g', 1, none⟩ u1) g z := by
  obtain ⟨neg, A, n, c, h1, h2⟩ := h
  exact ⟨neg, A, n, c, h1.far2 hne u0 u1, h2.set2 hs n0 n1 u0 u1⟩
theorem IntAt.near2 {w : World} {g : Nat} {z : Int} {neg : Bool} {A : Option Addr} {n c : Nat} (hi : IsInt w neg A n c z) {a0 a1 : Value} (hs : Slot2 w g a0 a1) (n0 : noLimb a0 = true) (n1 : noLimb a1 = true) : IntAt ((w.setCell ⟨g, 0, none⟩ (.bool neg)).setCell ⟨g, 1, none⟩ (.slice A n c)) g z :=
  ⟨neg, A, n, c, hs.set2 _ _, hi.set2 hs n0 n1 _ _⟩
/-- Two of them lie apart where one is new. -/
theorem OwnP.lt {B : Nat} {w : World} {v : Value} {st : Bool} {z : Int} (h : OwnP B w v st z) : v ≠ .pointer (some ⟨w.heap.size, 0, none⟩) := by
  obtain ⟨g, e, _, a0, a1, hs, _, _, _⟩ := h
  have := hs.2.2.2.2
  rw [e]
  intro h
  have e := congrArg (fun v => match v with | .pointer (some a) => a.block | _ => 0) h
  have e2 : g = w.heap.size := e
  omega
theorem Below.set2 {B : Nat} {w0 w : World} (h : Below B w0 w) {g : Nat} (hg : B ≤ g) (u0 u1 : Value) : Below B w0 ((w.setCell ⟨g, 0, none⟩ u0).setCell ⟨g, 1, none⟩ u1) := (h.setCell hg _).setCell hg _
end Go.Proofs.YtclmenpclkmfeaaDoor
namespace Go.Proofs.YtclmenpclkmfeaaDoor
open Go.RowKit Go.Maps
theorem lawU : Keyed Tryd.prog 39 := int_keyed Tryd.underlying39
theorem zeroU (w : World) : (zeroValue 39).run Tryd.prog w = .ok (.int .u64 0) w := by kernel_rfl
set_option maxRecDepth 100000 in
theorem residue_z {H : Type} (Ap : Option Addr) (np cp bm n p v : Nat) {D : DataW H} (w : World) (hown : w.ownsMap Tryd.prog 39 (plainElem Tryd.prog 39) bm n D) (hp : p < 18446744073709551616)
    (hat : D.atKey (.int .u64 (p : Int)) (.lit (.int .u64 0)) = .lit (.int .u64 (v : Int))) :
    Calls Tryd.prog 43 #[.agg #[.slice Ap np cp, .map (some bm)], .int .u64 (p : Int)] w fun e w' => e = .returned (.int .u64 (v : Int)) ∧ Below w.heap.size w w' := by
  have B0 := (Below.refl w.heap.size w).alloc (Nat.le_refl _) (.cells #[.slice Ap np cp, .map (some bm)] 75)
  have hown1 := hown.alloc (.cells #[.slice Ap np cp, .map (some bm)] 75)
  have hkey : keyOf Tryd.prog 39 (.int .u64 (p : Int)) = some (.int .u64 (p : Int)) := keyOf_int_mk Tryd.underlying39 (by simp [Lit.wf, IntKind.min, IntKind.max, IntKind.signed, IntKind.bits]; omega)
  have HAT := Lib.hid hat
  clear hat hown hp
  go_enter Tryd.func43, Tryd.ntmps43
  go_wp2_with (at_lookup; refine wpList_lookup_own_int _ rfl _ _ 73 rfl 39 39 .u64 lawU Tryd.underlying73 Tryd.underlying39 (zeroU _) bm n _ rfl hown1 _ _ rfl hkey ?_; intro c hat hwc)
  go_ret
  have e := hat.symm.trans HAT.out
  injection e with e
  injection e with e1 e2
  subst e2
  exact ⟨rfl, B0⟩
end Go.Proofs.YtclmenpclkmfeaaDoor
namespace Go.Proofs.YtclmenpclkmfeaaDoor
/-- What holds of the rows (g, s, t) and (r, s', t') for the numbers a and b. -/
structure ExtInv (a b g r : Nat) (s s' t t' : Int) : Prop where
  e1 : s * a + t * b = g
  e2 : s' * a + t' * b = r
  a1 : s'.natAbs * g + s.natAbs * r = b
  a2 : t'.natAbs * g + t.natAbs * r = a
  g1 : (0 ≤ s ∧ s' ≤ 0) ∨ (s ≤ 0 ∧ 0 ≤ s')
  g2 : (0 ≤ t ∧ t' ≤ 0) ∨ (t ≤ 0 ∧ 0 ≤ t')
  o1 : s.natAbs ≤ 1 ∨ 2 * s.natAbs ≤ s'.natAbs ∨ (s.natAbs ≤ s'.natAbs ∧ r ≠ 0)
  o2 : t.natAbs ≤ 1 ∨ 2 * t.natAbs ≤ t'.natAbs ∨ (t.natAbs ≤ t'.natAbs ∧ r ≠ 0)
  lt : r < g ∨ (s'.natAbs ≤ 1 ∧ t'.natAbs ≤ 1)
  gc : Nat.gcd g r = Nat.gcd a b
theorem ExtInv.start (a b : Nat) : ExtInv a b a b 1 0 0 1 :=
  ⟨by omega, by omega, by simp, by simp, .inl ⟨by omega, by omega⟩, .inr ⟨by omega, by omega⟩, .inl (by decide), .inl (by decide), .inr ⟨by decide, by decide⟩, rfl⟩
theorem natAbs_step {s s' : Int} (q : Nat) (h : (0 ≤ s ∧ s' ≤ 0) ∨ (s ≤ 0 ∧ 0 ≤ s')) :
    (s - q * s').natAbs = s.natAbs + q * s'.natAbs ∧ ((0 ≤ s' ∧ s - q * s' ≤ 0) ∨ (s' ≤ 0 ∧ 0 ≤ s - q * s')) := by
  rcases h with ⟨h1, h2⟩ | ⟨h1, h2⟩
  · obtain ⟨x, rfl⟩ := Int.eq_ofNat_of_zero_le h1
    obtain ⟨y, hy⟩ := Int.eq_ofNat_of_zero_le (show 0 ≤ -s' by omega)
    obtain rfl : s' = -(y : Int) := by omega
    have e : (x : Int) - q * -(y : Int) = ((x + q * y : Nat) : Int) := by rw [Int.mul_neg, Int.natCast_add, Int.natCast_mul]; omega
    rw [e]
    refine ⟨by rw [Int.natAbs_natCast, Int.natAbs_natCast, Int.natAbs_neg, Int.natAbs_natCast], .inr ⟨by omega, by omega⟩⟩
  · obtain ⟨y, rfl⟩ := Int.eq_ofNat_of_zero_le h2
    obtain ⟨x, hx⟩ := Int.eq_ofNat_of_zero_le (show 0 ≤ -s by omega)
    obtain rfl : s = -(x : Int) := by omega
    have e : -(x : Int) - q * (y : Int) = -((x + q * y : Nat) : Int) := by rw [Int.natCast_add, Int.natCast_mul]; omega
    rw [e]
    refine ⟨by rw [Int.natAbs_neg, Int.natAbs_natCast, Int.natAbs_neg, Int.natAbs_natCast, Int.natAbs_natCast], .inl ⟨by omega, by omega⟩⟩
theorem ord_step {x y z q r2 : Nat} (hz : z = x + q * y) (h0 : q = 0 → y ≤ 1) (h1 : q = 1 → r2 = 0 → y ≤ 1) : y ≤ 1 ∨ 2 * y ≤ z ∨ (y ≤ z ∧ r2 ≠ 0) := by
  rcases Nat.lt_or_ge q 2 with h | h
  · rcases Nat.eq_zero_or_pos q with e | e
    · exact .inl (h0 e)
    · have e : q = 1 := by omega
      subst e
      by_cases hr : r2 = 0
      · exact .inl (h1 rfl hr)
      · exact .inr (.inr ⟨by omega, hr⟩)
  · have : 2 * y ≤ q * y := Nat.mul_le_mul_right y h
    exact .inr (.inl (by omega))
theorem ExtInv.step {a b g r : Nat} {s s' t t' : Int} (h : ExtInv a b g r s s' t t') (hr : 0 < r) :
    ExtInv a b r (g % r) s' (s - (g / r : Nat) * s') t' (t - (g / r : Nat) * t') := by
  have hd := Nat.div_add_mod g r
  have hm := Nat.mod_lt g hr
  obtain ⟨n1, k1⟩ := natAbs_step (g / r) h.g1
  obtain ⟨n2, k2⟩ := natAbs_step (g / r) h.g2
  have q0 : g / r = 0 → s'.natAbs ≤ 1 ∧ t'.natAbs ≤ 1 := fun e => by
    rcases h.lt with l | l
    · exfalso
      have : 0 < g / r := Nat.div_pos (Nat.le_of_lt l) hr
      omega
    · exact l
  have q1 : g / r = 1 → g % r = 0 → s'.natAbs ≤ 1 ∧ t'.natAbs ≤ 1 := fun e1 e2 => by
    rw [e1, e2] at hd
    rcases h.lt with l | l
    · omega
    · exact l
  have hgc : Nat.gcd r (g % r) = Nat.gcd a b := by rw [← h.gc, Nat.gcd_comm g r, Nat.gcd_rec r g, Nat.gcd_comm]
  have hdi : (g : Int) = (r : Int) * ((g / r : Nat) : Int) + ((g % r : Nat) : Int) := by exact_mod_cast hd.symm
  generalize g / r = q at *
  generalize g % r = r2 at *
  refine ⟨h.e2, ?_, ?_, ?_, ?_, ?_, ord_step n1 (fun e => (q0 e).1) (fun e1 e2 => (q1 e1 e2).1), ord_step n2 (fun e => (q0 e).2) (fun e1 e2 => (q1 e1 e2).2), .inl hm, hgc⟩
  · have e1 := h.e1
    have e2 := h.e2
    have : (s - (q : Int) * s') * a + (t - (q : Int) * t') * b = (s * a + t * b) - q * (s' * a + t' * b) := by
      rw [Int.sub_mul, Int.sub_mul, Int.mul_add, Int.mul_assoc, Int.mul_assoc]; omega
    rw [this, e1, e2, hdi, Int.mul_comm (r : Int)]; omega
  · rw [n1, Nat.add_mul]
    have := h.a1
    rw [← hd, Nat.mul_add] at this
    rw [Nat.mul_comm q, Nat.mul_assoc, Nat.mul_comm q r]
    omega
  · rw [n2, Nat.add_mul]
    have := h.a2
    rw [← hd, Nat.mul_add] at this
    rw [Nat.mul_comm q, Nat.mul_assoc, Nat.mul_comm q r]
    omega
  · exact k1
  · exact k2
end Go.Proofs.YtclmenpclkmfeaaDoor
namespace Go.Proofs.YtclmenpclkmfeaaDoor
def chs : Nat → Nat → Nat
  | _, 0 => 1
  | 0, _ + 1 => 0
  | n + 1, k + 1 => chs n k + chs n (k + 1)
/-- A prime number. -/
def IsPrime (p : Nat) : Prop := 2 ≤ p ∧ ∀ d, d ∣ p → d = 1 ∨ d = p
theorem chs_zero (n : Nat) : chs n 0 = 1 := by cases n <;> rfl
theorem chs_gt : ∀ n k, n < k → chs n k = 0
  | 0, 0, h => absurd h (by omega)
  | 0, _ + 1, _ => rfl
  | _ + 1, 0, h => absurd h (by omega)
  | n + 1, k + 1, h => by rw [chs, chs_gt n k (by omega), chs_gt n (k + 1) (by omega)]
theorem chs_self : ∀ n, chs n n = 1
  | 0 => rfl
  | n + 1 => by rw [chs, chs_self n, chs_gt n (n + 1) (by omega)]
theorem chs_mul : ∀ n k, (k + 1) * chs (n + 1) (k + 1) = (n + 1) * chs n k
  | 0, 0 => rfl
  | 0, k + 1 => by
    show (k + 1 + 1) * (chs 0 (k + 1) + chs 0 (k + 1 + 1)) = (0 + 1) * chs 0 (k + 1)
    rw [chs_gt 0 (k + 1) (by omega), chs_gt 0 (k + 1 + 1) (by omega)]; simp
  | n + 1, 0 => by
    have h := chs_mul n 0
    rw [chs_zero] at h ⊢
    rw [chs, chs_zero]; omega
  | n + 1, k + 1 => by
    have h1 := chs_mul n k
    have h2 := chs_mul n (k + 1)
    have h3 : chs (n + 1) (k + 1) = chs n k + chs n (k + 1) := rfl
    have h4 : chs (n + 1 + 1) (k + 1 + 1) = chs (n + 1) (k + 1) + chs (n + 1) (k + 1 + 1) := rfl
    rw [h4, Nat.mul_add, h2, Nat.add_mul (k + 1) 1 (chs (n + 1) (k + 1)), h1, Nat.add_mul (n + 1) 1 (chs (n + 1) (k + 1)), Nat.one_mul, Nat.add_right_comm, ← Nat.mul_add, ← h3]
def bsum (x n : Nat) : Nat → Nat
  | 0 => 0
  | m + 1 => bsum x n m + chs n m * x ^ m
theorem bsum_step (x n : Nat) : ∀ m, bsum x (n + 1) (m + 1) = bsum x n (m + 1) + x * bsum x n m
  | 0 => by simp only [bsum, chs_zero, Nat.mul_zero, Nat.add_zero]
  | m + 1 => by
    have h := bsum_step x n m
    have h1 : bsum x (n + 1) (m + 1 + 1) = bsum x (n + 1) (m + 1) + (chs n m + chs n (m + 1)) * x ^ (m + 1) := rfl
    have h2 : bsum x n (m + 1 + 1) = bsum x n (m + 1) + chs n (m + 1) * x ^ (m + 1) := rfl
    have h3 : bsum x n (m + 1) = bsum x n m + chs n m * x ^ m := rfl
    rw [h1, h, h2, h3, Nat.mul_add x, Nat.add_mul, Nat.pow_succ, Nat.mul_left_comm x, Nat.mul_comm x (x ^ m)]
    omega
theorem binom (x : Nat) : ∀ n, (1 + x) ^ n = bsum x n (n + 1)
  | 0 => by simp only [bsum, chs_zero, Nat.pow_zero]
  | n + 1 => by
    rw [bsum_step, Nat.pow_succ, binom x n]
    have h2 : bsum x n (n + 1 + 1) = bsum x n (n + 1) + chs n (n + 1) * x ^ (n + 1) := rfl
    rw [h2, chs_gt n (n + 1) (by omega), Nat.zero_mul, Nat.mul_add, Nat.mul_one, Nat.mul_comm x]
    simp only [Nat.add_zero]
theorem IsPrime.coprime {p : Nat} (h : IsPrime p) {k : Nat} (h0 : 0 < k) (h1 : k < p) : Nat.Coprime p k := by
  rcases h.2 _ (Nat.gcd_dvd_left p k) with e | e
  · exact e
  · have := Nat.le_of_dvd h0 (Nat.gcd_dvd_right p k)
    omega
theorem IsPrime.chs {p : Nat} (h : IsPrime p) {k : Nat} (h0 : 0 < k) (h1 : k < p) : p ∣ chs p k := by
  obtain ⟨n, rfl⟩ : ∃ n, p = n + 1 := ⟨p - 1, by omega⟩
  obtain ⟨j, rfl⟩ : ∃ j, k = j + 1 := ⟨k - 1, by omega⟩
  exact (h.coprime h0 h1).dvd_of_dvd_mul_left (by rw [chs_mul]; exact Nat.dvd_mul_right _ _)
theorem IsPrime.bsum {p : Nat} (h : IsPrime p) (x : Nat) : ∀ m, m + 1 ≤ p → bsum x p (m + 1) % p = 1 % p
  | 0, _ => by simp only [Go.Proofs.YtclmenpclkmfeaaDoor.bsum, chs_zero, Nat.pow_zero, Nat.mul_one, Nat.zero_add]
  | m + 1, hm => by
    have h1 := h.bsum x m (by omega)
    obtain ⟨c, hc⟩ := h.chs (k := m + 1) (by omega) (by omega)
    have h2 : Go.Proofs.YtclmenpclkmfeaaDoor.bsum x p (m + 1 + 1) = Go.Proofs.YtclmenpclkmfeaaDoor.bsum x p (m + 1) + Go.Proofs.YtclmenpclkmfeaaDoor.chs p (m + 1) * x ^ (m + 1) := rfl
    rw [h2, hc, Nat.mul_assoc, Nat.add_mul_mod_self_left, h1]
theorem fermat_all {p : Nat} (h : IsPrime p) : ∀ x : Nat, x ^ p % p = x % p
  | 0 => by rw [Nat.zero_pow (by have := h.1; omega)]
  | x + 1 => by
    have h1 := fermat_all h x
    have hb := h.bsum x (p - 1) (by have := h.1; omega)
    have hp : p - 1 + 1 = p := by have := h.1; omega
    rw [hp] at hb
    rw [Nat.add_comm x 1, binom x p]
    have h2 : bsum x p (p + 1) = bsum x p p + chs p p * x ^ p := rfl
    rw [h2, chs_self, Nat.one_mul, Nat.add_mod, hb, h1, ← Nat.add_mod]
theorem fermat {p : Nat} (h : IsPrime p) {x : Nat} (h0 : 0 < x) (h1 : x < p) : x ^ (p - 1) % p = 1 := by
  have ha := fermat_all h x
  have hp : p = p - 1 + 1 := by omega
  have e : x ^ p = x ^ (p - 1) * x := by
    have := Nat.pow_succ (n := x) (m := p - 1)
    rwa [Nat.succ_eq_add_one, ← hp] at this
  rw [e] at ha
  generalize hy : x ^ (p - 1) = y at *
  have y0 : 0 < y := by rw [← hy]; exact Nat.pow_pos h0
  have hs := Nat.sub_mod_eq_zero_of_mod_eq ha
  have hd : p ∣ y - 1 := (h.coprime h0 h1).dvd_of_dvd_mul_right (by rw [Nat.sub_mul, Nat.one_mul]; exact Nat.dvd_of_mod_eq_zero hs)
  obtain ⟨c, hc⟩ := hd
  obtain rfl : y = 1 + p * c := by omega
  rw [Nat.add_mul_mod_self_left, Nat.mod_eq_of_lt h.1]
/-- None of d, d + 2, .. (as many as 2^k) divides n, unless its square is greater. -/
def noDiv (n : Nat) (k : Nat) : Nat → Bool :=
  Nat.rec (motive := fun _ => Nat → Bool) (fun d => (Nat.blt n (d * d)) || !(Nat.beq (n % d) 0)) (fun k ih d => ih d && ih (d + 2 ^ (k + 1))) k
theorem noDiv_sound (n : Nat) : ∀ k d, noDiv n k d = true → ∀ j, j < 2 ^ k → n < (d + 2 * j) * (d + 2 * j) ∨ n % (d + 2 * j) ≠ 0
  | 0, d, h, j, hj => by
    obtain rfl : j = 0 := by have : 2 ^ 0 = 1 := rfl; omega
    have h : ((Nat.blt n (d * d)) || !(Nat.beq (n % d) 0)) = true := h
    rw [Nat.mul_zero, Nat.add_zero]
    rcases Bool.or_eq_true_iff.1 h with h | h
    · exact .inl (Eq.mp Nat.blt_eq h)
    · refine .inr fun e => ?_
      rw [e] at h
      cases h
  | k + 1, d, h, j, hj => by
    have h : (noDiv n k d && noDiv n k (d + 2 ^ (k + 1))) = true := h
    obtain ⟨h1, h2⟩ := Bool.and_eq_true_iff.1 h
    have e : 2 ^ (k + 1) = 2 * 2 ^ k := by rw [Nat.pow_succ, Nat.mul_comm]
    by_cases hj2 : j < 2 ^ k
    · exact noDiv_sound n k d h1 j hj2
    · have := noDiv_sound n k _ h2 (j - 2 ^ k) (by omega)
      have e2 : d + 2 ^ (k + 1) + 2 * (j - 2 ^ k) = d + 2 * j := by omega
      rwa [e2] at this
theorem prime_of {n : Nat} (k : Nat) (h3 : 3 ≤ n) (ho : n % 2 = 1) (hk : n < (3 + 2 * 2 ^ k) * (3 + 2 * 2 ^ k)) (h : noDiv n k 3 = true) : IsPrime n := by
  refine ⟨by omega, fun d hd => ?_⟩
  have key : ∀ e : Nat, e ≠ 1 → e ∣ n → e * e ≤ n → False := by
    intro e h1 hen hee
    obtain ⟨c, rfl⟩ := hen
    have e0 : e % 2 = 1 := by
      rcases Nat.mod_two_eq_zero_or_one e with q | q
      · rw [Nat.mul_mod, q, Nat.zero_mul] at ho; cases ho
      · exact q
    have hlt : e < 3 + 2 * 2 ^ k := by
      rcases Nat.lt_or_ge e (3 + 2 * 2 ^ k) with q | q
      · exact q
      · have := Nat.mul_le_mul q q
        omega
    have := noDiv_sound _ k 3 h ((e - 3) / 2) (by omega)
    have e2 : 3 + 2 * ((e - 3) / 2) = e := by omega
    rw [e2] at this
    rcases this with q | q
    · omega
    · exact q (Nat.mul_mod_right e c)
  obtain ⟨c, hc⟩ := hd
  by_cases d1 : d = 1
  · exact .inl d1
  · by_cases c1 : c = 1
    · right; rw [hc, c1, Nat.mul_one]
    · exfalso
      rcases Nat.le_total d c with q | q
      · exact key d d1 ⟨c, hc⟩ (by rw [hc]; exact Nat.mul_le_mul_left d q)
      · exact key c c1 ⟨d, by rw [hc, Nat.mul_comm]⟩ (by rw [hc]; exact Nat.mul_le_mul_right c q)
/-- The primes for which the statements of layer 3 are made. -/
def primes15 : List Nat := [2, 3, 5, 7, 11, 101, 65521, 65537, 1000003, 2147483549, 2147483563, 2147483579, 2147483587, 2147483629, 2147483647]
theorem prime2 : IsPrime 2 := ⟨by decide, fun d hd => by
  have := Nat.le_of_dvd (by decide) hd
  rcases d with _ | _ | _ | d
  · obtain ⟨c, hc⟩ := hd; omega
  · exact .inl rfl
  · exact .inr rfl
  · omega⟩
set_option maxRecDepth 100000 in
theorem primes15_prime : ∀ p ∈ primes15, IsPrime p ∧ p < 2147483648 := by
  intro p hp
  simp only [primes15, List.mem_cons, List.not_mem_nil, or_false] at hp
  rcases hp with rfl | rfl | rfl | rfl | rfl | rfl | rfl | rfl | rfl | rfl | rfl | rfl | rfl | rfl | rfl
  · exact ⟨prime2, by decide⟩
  · exact ⟨prime_of 2 (by decide) (by decide) (by decide) (by kernel_rfl), by decide⟩
  · exact ⟨prime_of 2 (by decide) (by decide) (by decide) (by kernel_rfl), by decide⟩
  · exact ⟨prime_of 2 (by decide) (by decide) (by decide) (by kernel_rfl), by decide⟩
  · exact ⟨prime_of 2 (by decide) (by decide) (by decide) (by kernel_rfl), by decide⟩
  · exact ⟨prime_of 3 (by decide) (by decide) (by decide) (by kernel_rfl), by decide⟩
  · exact ⟨prime_of 7 (by decide) (by decide) (by decide) (by kernel_rfl), by decide⟩
  · exact ⟨prime_of 7 (by decide) (by decide) (by decide) (by kernel_rfl), by decide⟩
  · exact ⟨prime_of 9 (by decide) (by decide) (by decide) (by kernel_rfl), by decide⟩
  · exact ⟨prime_of 15 (by decide) (by decide) (by decide) (by kernel_rfl), by decide⟩
  · exact ⟨prime_of 15 (by decide) (by decide) (by decide) (by kernel_rfl), by decide⟩
  · exact ⟨prime_of 15 (by decide) (by decide) (by decide) (by kernel_rfl), by decide⟩
  · exact ⟨prime_of 15 (by decide) (by decide) (by decide) (by kernel_rfl), by decide⟩
  · exact ⟨prime_of 15 (by decide) (by decide) (by decide) (by kernel_rfl), by decide⟩
  · exact ⟨prime_of 15 (by decide) (by decide) (by decide) (by kernel_rfl), by decide⟩
end Go.Proofs.YtclmenpclkmfeaaDoor
namespace Go.Proofs.YtclmenpclkmfeaaDoor
/-- d is the inverse of a modulo p. -/
def InvOk (p a d : Nat) : Prop := 0 < d ∧ d < p ∧ a * d % p = 1
theorem InvOk.unique {p a d d' : Nat} (h : InvOk p a d) (h' : InvOk p a d') : d = d' := by
  have e1 : d' * (a * d) % p = d' % p := by rw [Nat.mul_mod, h.2.2, Nat.mul_one, Nat.mod_mod]
  have e2 : d * (a * d') % p = d % p := by rw [Nat.mul_mod, h'.2.2, Nat.mul_one, Nat.mod_mod]
  have e3 : d' * (a * d) = d * (a * d') := by rw [Nat.mul_left_comm, Nat.mul_comm d' d, Nat.mul_left_comm]
  rw [e3, e2, Nat.mod_eq_of_lt h.2.1, Nat.mod_eq_of_lt h'.2.1] at e1
  exact e1
theorem InvOk.fermat {p a : Nat} (hp : IsPrime p) (h0 : 0 < a) (h1 : a < p) : InvOk p a (a ^ (p - 2) % p) := by
  have hm : a * (a ^ (p - 2) % p) % p = 1 := by
    rw [Nat.mul_mod, Nat.mod_mod, ← Nat.mul_mod, Nat.mul_comm, ← Nat.pow_succ]
    have e : p - 2 + 1 = p - 1 := by have := hp.1; omega
    show a ^ (p - 2 + 1) % p = 1
    rw [e]
    exact Go.Proofs.YtclmenpclkmfeaaDoor.fermat hp h0 h1
  refine ⟨?_, Nat.mod_lt _ (by have := hp.1; omega), hm⟩
  rcases Nat.eq_zero_or_pos (a ^ (p - 2) % p) with e | e
  · rw [e, Nat.mul_zero, Nat.zero_mod] at hm
    cases hm
  · exact e
theorem ExtInv.inv {p a g : Nat} {s s' t t' : Int} (hp : IsPrime p) (h0 : 0 < a) (h1 : a < p) (h : ExtInv p a g 0 s s' t t') :
    g = 1 ∧ 0 < (if t < 0 then t + p else t) ∧ (if t < 0 then t + p else t) < p ∧ InvOk p a (if t < 0 then t + p else t).toNat := by
  have hg : g = 1 := by
    have := h.gc
    rw [Nat.gcd_zero_right] at this
    rw [this]
    exact hp.coprime h0 h1
  subst hg
  have hp2 := hp.1
  have e1 := h.e1
  have a2 := h.a2
  have o2 := h.o2
  have ht : t ≠ 0 := by
    rintro rfl
    rw [Int.zero_mul, Int.add_zero] at e1
    have hd : (p : Int) ∣ 1 := ⟨s, by rw [Int.mul_comm]; exact e1.symm⟩
    have := Int.le_of_dvd (by decide) hd
    omega
  have hb : t.natAbs < p := by omega
  have hd : 0 < (if t < 0 then t + p else t) ∧ (if t < 0 then t + p else t) < (p : Int) := by
    split <;> omega
  have hm : ((if t < 0 then t + p else t) * a) % (p : Int) = 1 := by
    have e2 : t * a = 1 + (p : Int) * -s := by
      rw [Int.mul_neg, Int.mul_comm (p : Int) s]; omega
    split
    · rw [Int.add_mul, e2, Int.add_assoc, ← Int.mul_add, Int.add_mul_emod_self_left]
      exact Int.emod_eq_of_lt (by decide) (by omega)
    · rw [e2, Int.add_mul_emod_self_left]
      exact Int.emod_eq_of_lt (by decide) (by omega)
  generalize (if t < 0 then t + p else t) = d at *
  obtain ⟨D, rfl⟩ := Int.eq_ofNat_of_zero_le (show 0 ≤ d by omega)
  refine ⟨rfl, hd.1, hd.2, ?_, ?_, ?_⟩
  · have := hd.1; simp only [Int.toNat_natCast]; omega
  · have := hd.2; simp only [Int.toNat_natCast]; omega
  · simp only [Int.toNat_natCast]
    rw [Nat.mul_comm]
    exact_mod_cast hm
theorem ExtInv.small {p a g r : Nat} {s s' t t' : Int} (h : ExtInv p a g r s s' t t') : (0 < g → t'.natAbs ≤ p ∧ (r : Nat) * t.natAbs ≤ p) ∧ (0 < r → t.natAbs ≤ p) := by
  have a2 := h.a2
  have e : t.natAbs * r = r * t.natAbs := Nat.mul_comm _ _
  refine ⟨fun hg => ⟨?_, by omega⟩, fun hr => ?_⟩
  · have := Nat.le_mul_of_pos_right t'.natAbs hg
    omega
  · have := Nat.le_mul_of_pos_right t.natAbs hr
    omega
theorem pow_even {p W w a e : Nat} (h : w * a ^ (2 * e) % p = W) : w * (a * a % p) ^ e % p = W := by
  rw [← h, Nat.pow_mul, Nat.pow_two, Nat.mul_mod, ← Nat.pow_mod, ← Nat.mul_mod]
theorem pow_odd {p W w a e : Nat} (h : w * a ^ (2 * e + 1) % p = W) : (w * a % p) * (a * a % p) ^ e % p = W := by
  rw [← h, Nat.pow_succ, Nat.pow_mul, Nat.pow_two, Nat.mul_mod (w * a % p), ← Nat.pow_mod, Nat.mod_mod, ← Nat.mul_mod, Nat.mul_assoc, Nat.mul_comm a]
end Go.Proofs.YtclmenpclkmfeaaDoor
namespace Go.Proofs.YtclmenpclkmfeaaDoor
open Go.RowKit
set_option maxHeartbeats 1000000 in
theorem sum_ge (A A' : Option Addr) (n c m d B B' : Nat) (xs ys : List Nat) (w : World) (ha : Lim w B A n c xs) (hb : Lim w B' A' m d ys) (hB : B ≤ w.heap.size) (hB' : B' ≤ w.heap.size) (hn : n ≤ 1000000) (hmn : m ≤ n) :
    Calls Tryd.prog 81 #[.slice A n c, .slice A' m d] w fun e w' => ∃ zs, RetSl w zs e w' ∧ val zs = val xs + val ys ∧ zs.length = n + 1 := by
  have hmk : ∀ W : World, (Instr.makeSlice 26 (.int .i64 ((n : Int) + 1)) (.int .i64 ((n : Int) + 1))).run Tryd.prog W =
    .ok (.slice (some ⟨W.heap.size, 0, none⟩) (n + 1) (n + 1)) (W.alloc (.cells (madeCells #[.int .u32 0] (n + 1)) 69)) := fun W => make_u32 (n + 1) (by omega) W
  go_enter Tryd.func81, Tryd.ntmps81
  go_wp2
  go_loopw [6, 22] (fun cr i wr => ∃ k q : Nat, ∃ R : List Nat, k ≤ n ∧ i = .int .i64 k ∧ cr = .int .u64 q ∧ q ≤ 1 ∧ Row wr w.heap.size R ∧ Limbs R ∧ Hid (R.length = n + 1) ∧ Hid (val (xs.take k) + val (ys.take k) = val (R.take k) + q * 4294967296 ^ k) ∧ Below w.heap.size w wr) (fun _ i _ => n - (intOf i).toNat)
  case atStart => exact ⟨0, 0, _, by omega, rfl, rfl, by omega, Row.made w (n + 1), limbs_zeros _, by simp [Hid], by simp [Hid, val], (Below.refl _ _).alloc (Nat.le_refl _) _⟩
  case round =>
    obtain ⟨k, q, R, hk, rfl, rfl, hq, hR, hL, hlen, hv, hbel⟩ := hrel
    by_cases hkn : k < n
    · obtain ⟨ad, rfl, _, x, hx, hxl, hcx⟩ := (ha.below (hbel.mono hB)).at_ hkn
      have hcr := hR.cell (k := k) (by rw [hlen.out]; omega)
      have hfr := hR.frozen k
      by_cases hkm : k < m
      · obtain ⟨ad', rfl, _, y, hy, hyl, hcy⟩ := (hb.below (hbel.mono hB')).at_ hkm
        go_wp2
        go_roundw
        case rel =>
          have e1 : (((x + q + y) % 4294967296 : Nat) : Int) = ((x : Int) + q + y) % 4294967296 := by omega
          have e2 : (((x + q + y) / 4294967296 : Nat) : Int) = ((x : Int) + q + y) / 4294967296 := by omega
          refine ⟨k + 1, (x + q + y) / 4294967296, R.set k ((x + q + y) % 4294967296), by omega, by go_num, by rw [e2], by omega, by rw [← e1]; exact hR.set k _, limbs_set hL k (by omega), by rw [Hid, List.length_set]; exact hlen.out, ?_, hbel.setCell (by simp) _⟩
          rw [Hid, val_take_succ xs, val_take_succ ys, val_set_take R k _ (by rw [hlen.out]; omega), ← hx.out, ← hy.out, Nat.pow_succ]
          exact sum_step hv.out rfl
        case measure => simp [intOf]; omega
      · go_wp2
        go_roundw
        case rel =>
          have e1 : (((x + q + 0) % 4294967296 : Nat) : Int) = ((x : Int) + q) % 4294967296 := by omega
          have e2 : (((x + q + 0) / 4294967296 : Nat) : Int) = ((x : Int) + q) / 4294967296 := by omega
          have hy : ys.getD k 0 = 0 := by rw [List.getD_eq_getElem?_getD, List.getElem?_eq_none (by rw [hb.len]; omega)]; rfl
          refine ⟨k + 1, (x + q + 0) / 4294967296, R.set k ((x + q + 0) % 4294967296), by omega, by go_num, by rw [e2], by omega, by rw [← e1]; exact hR.set k _, limbs_set hL k (by omega), by rw [Hid, List.length_set]; exact hlen.out, ?_, hbel.setCell (by simp) _⟩
          rw [Hid, val_take_succ xs, val_take_succ ys, val_set_take R k _ (by rw [hlen.out]; omega), ← hx.out, hy, Nat.pow_succ]
          exact sum_step hv.out rfl
        case measure => simp [intOf]; omega
    · obtain rfl : k = n := by omega
      have hcr := hR.cell (k := k) (by rw [hlen.out]; omega)
      have hfr := hR.frozen k
      go_wp2
      go_ret
      have hR' := hR.set k q
      have hL' := limbs_set hL k (v := q) (by omega)
      have hlen' : (R.set k q).length = k + 1 := by rw [List.length_set]; exact hlen.out
      refine ⟨R.set k q, ⟨_, _, _, rfl, hR'.len_lim hL' (k + 1) hlen' (by omega), hbel.setCell (by simp) _⟩, ?_, hlen'⟩
      have e := val_set_take R k q (by rw [hlen.out]; omega)
      rw [List.take_of_length_le (by omega)] at e
      have e2 := hv.out
      rw [List.take_of_length_le (by rw [ha.len]; exact Nat.le_refl _), List.take_of_length_le (by rw [hb.len]; exact hmn)] at e2
      rw [e, e2, Nat.mul_comm]
set_option maxHeartbeats 1000000 in
theorem sum_lt (A A' : Option Addr) (n c m d B B' : Nat) (xs ys : List Nat) (w : World) (ha : Lim w B A n c xs) (hb : Lim w B' A' m d ys) (hB : B ≤ w.heap.size) (hB' : B' ≤ w.heap.size) (hn : n ≤ 1000000) (hmn : m < n) :
    Calls Tryd.prog 81 #[.slice A' m d, .slice A n c] w fun e w' => ∃ zs, RetSl w zs e w' ∧ val zs = val xs + val ys ∧ zs.length = n + 1 := by
  have hmk : ∀ W : World, (Instr.makeSlice 26 (.int .i64 ((n : Int) + 1)) (.int .i64 ((n : Int) + 1))).run Tryd.prog W =
    .ok (.slice (some ⟨W.heap.size, 0, none⟩) (n + 1) (n + 1)) (W.alloc (.cells (madeCells #[.int .u32 0] (n + 1)) 69)) := fun W => make_u32 (n + 1) (by omega) W
  go_enter Tryd.func81, Tryd.ntmps81
  go_wp2
  go_loopw [6, 22] (fun cr i wr => ∃ k q : Nat, ∃ R : List Nat, k ≤ n ∧ i = .int .i64 k ∧ cr = .int .u64 q ∧ q ≤ 1 ∧ Row wr w.heap.size R ∧ Limbs R ∧ Hid (R.length = n + 1) ∧ Hid (val (xs.take k) + val (ys.take k) = val (R.take k) + q * 4294967296 ^ k) ∧ Below w.heap.size w wr) (fun _ i _ => n - (intOf i).toNat)
  case atStart => exact ⟨0, 0, _, by omega, rfl, rfl, by omega, Row.made w (n + 1), limbs_zeros _, by simp [Hid], by simp [Hid, val], (Below.refl _ _).alloc (Nat.le_refl _) _⟩
  case round =>
    obtain ⟨k, q, R, hk, rfl, rfl, hq, hR, hL, hlen, hv, hbel⟩ := hrel
    by_cases hkn : k < n
    · obtain ⟨ad, rfl, _, x, hx, hxl, hcx⟩ := (ha.below (hbel.mono hB)).at_ hkn
      have hcr := hR.cell (k := k) (by rw [hlen.out]; omega)
      have hfr := hR.frozen k
      by_cases hkm : k < m
      · obtain ⟨ad', rfl, _, y, hy, hyl, hcy⟩ := (hb.below (hbel.mono hB')).at_ hkm
        go_wp2
        go_roundw
        case rel =>
          have e1 : (((x + q + y) % 4294967296 : Nat) : Int) = ((x : Int) + q + y) % 4294967296 := by omega
          have e2 : (((x + q + y) / 4294967296 : Nat) : Int) = ((x : Int) + q + y) / 4294967296 := by omega
          refine ⟨k + 1, (x + q + y) / 4294967296, R.set k ((x + q + y) % 4294967296), by omega, by go_num, by rw [e2], by omega, by rw [← e1]; exact hR.set k _, limbs_set hL k (by omega), by rw [Hid, List.length_set]; exact hlen.out, ?_, hbel.setCell (by simp) _⟩
          rw [Hid, val_take_succ xs, val_take_succ ys, val_set_take R k _ (by rw [hlen.out]; omega), ← hx.out, ← hy.out, Nat.pow_succ]
          exact sum_step hv.out rfl
        case measure => simp [intOf]; omega
      · go_wp2
        go_roundw
        case rel =>
          have e1 : (((x + q + 0) % 4294967296 : Nat) : Int) = ((x : Int) + q) % 4294967296 := by omega
          have e2 : (((x + q + 0) / 4294967296 : Nat) : Int) = ((x : Int) + q) / 4294967296 := by omega
          have hy : ys.getD k 0 = 0 := by rw [List.getD_eq_getElem?_getD, List.getElem?_eq_none (by rw [hb.len]; omega)]; rfl
          refine ⟨k + 1, (x + q + 0) / 4294967296, R.set k ((x + q + 0) % 4294967296), by omega, by go_num, by rw [e2], by omega, by rw [← e1]; exact hR.set k _, limbs_set hL k (by omega), by rw [Hid, List.length_set]; exact hlen.out, ?_, hbel.setCell (by simp) _⟩
          rw [Hid, val_take_succ xs, val_take_succ ys, val_set_take R k _ (by rw [hlen.out]; omega), ← hx.out, hy, Nat.pow_succ]
          exact sum_step hv.out rfl
        case measure => simp [intOf]; omega
    · obtain rfl : k = n := by omega
      have hcr := hR.cell (k := k) (by rw [hlen.out]; omega)
      have hfr := hR.frozen k
      go_wp2
      go_ret
      have hR' := hR.set k q
      have hL' := limbs_set hL k (v := q) (by omega)
      have hlen' : (R.set k q).length = k + 1 := by rw [List.length_set]; exact hlen.out
      refine ⟨R.set k q, ⟨_, _, _, rfl, hR'.len_lim hL' (k + 1) hlen' (by omega), hbel.setCell (by simp) _⟩, ?_, hlen'⟩
      have e := val_set_take R k q (by rw [hlen.out]; omega)
      rw [List.take_of_length_le (by omega)] at e
      have e2 := hv.out
      rw [List.take_of_length_le (by rw [ha.len]; exact Nat.le_refl _), List.take_of_length_le (by rw [hb.len]; exact Nat.le_of_lt hmn)] at e2
      rw [e, e2, Nat.mul_comm]

theorem sum_any (A A' : Option Addr) (n c m d B B' : Nat) (xs ys : List Nat) (w : World) (ha : Lim w B A n c xs) (hb : Lim w B' A' m d ys) (hB : B ≤ w.heap.size) (hB' : B' ≤ w.heap.size) (hn : n ≤ 1000000) (hm : m ≤ 1000000) :
    Calls Tryd.prog 81 #[.slice A n c, .slice A' m d] w fun e w' => ∃ zs, RetSl w zs e w' ∧ val zs = val xs + val ys ∧ zs.length = max n m + 1 := by
  rcases Nat.lt_or_ge n m with h | h
  · refine (sum_lt A' A m d n c B' B ys xs w hb ha hB' hB hm h).mono ?_
    rintro e w' ⟨zs, h1, h2, h3⟩
    exact ⟨zs, h1, by omega, by omega⟩
  · refine (sum_ge A A' n c m d B B' xs ys w ha hb hB hB' hn h).mono ?_
    rintro e w' ⟨zs, h1, h2, h3⟩
    exact ⟨zs, h1, h2, by omega⟩
end Go.Proofs.YtclmenpclkmfeaaDoor
namespace Go.Proofs.YtclmenpclkmfeaaDoor
open Go.RowKit
theorem diff_digit (x y q : Nat) (hx : x < 4294967296) (hy : y < 4294967296) (hq : q ≤ 1) : ∃ q' : Nat, x + q' * 4294967296 = (x + 8589934592 - y - q) % 4294967296 + y + q ∧ q' ≤ 1 ∧
    (((x + 8589934592 - y - q) % 4294967296 : Nat) : Int) = IntKind.u64.wrap (IntKind.u64.wrap ((x : Int) - q) - y) % 4294967296 ∧ ((q' : Nat) : Int) = IntKind.u64.wrap (IntKind.u64.wrap ((x : Int) - q) - y) / 9223372036854775808 := by
  rw [IntKind.wrap_u64, IntKind.wrap_u64]
  by_cases h : x < y + q
  · exact ⟨1, by omega, by omega, by omega, by omega⟩
  · exact ⟨0, by omega, by omega, by omega, by omega⟩
set_option maxHeartbeats 1000000 in
theorem diff_any (A A' : Option Addr) (n c m d B B' : Nat) (xs ys : List Nat) (w : World) (ha : Lim w B A n c xs) (hb : Lim w B' A' m d ys) (hB : B ≤ w.heap.size) (hB' : B' ≤ w.heap.size) (hn : n ≤ 1000000) (hmn : m ≤ n) (hle : val ys ≤ val xs) :
    Calls Tryd.prog 82 #[.slice A n c, .slice A' m d] w fun e w' => ∃ zs, RetSl w zs e w' ∧ val zs = val xs - val ys ∧ zs.length = n := by
  have hmk := fun W => make_u32 n (by omega) W
  have HLE := Lib.hid hle
  clear hle
  go_enter Tryd.func82, Tryd.ntmps82
  go_wp2
  go_loopw [6, 14] (fun cr i wr => ∃ k q : Nat, ∃ R : List Nat, k ≤ n ∧ i = .int .i64 k ∧ cr = .int .u64 q ∧ q ≤ 1 ∧ Row wr w.heap.size R ∧ Limbs R ∧ Hid (R.length = n) ∧ Hid (val (xs.take k) + q * 4294967296 ^ k = val (R.take k) + val (ys.take k)) ∧ Below w.heap.size w wr) (fun _ i _ => n - (intOf i).toNat)
  case atStart => exact ⟨0, 0, _, by omega, rfl, rfl, by omega, Row.made w n, limbs_zeros _, by simp [Hid], by simp [Hid, val], (Below.refl _ _).alloc (Nat.le_refl _) _⟩
  case round =>
    obtain ⟨k, q, R, hk, rfl, rfl, hq, hR, hL, hlen, hv, hbel⟩ := hrel
    by_cases hkn : k < n
    · obtain ⟨ad, rfl, _, x, hx, hxl, hcx⟩ := (ha.below (hbel.mono hB)).at_ hkn
      have hcr := hR.cell (k := k) (by rw [hlen.out]; omega)
      have hfr := hR.frozen k
      by_cases hkm : k < m
      · obtain ⟨ad', rfl, _, y, hy, hyl, hcy⟩ := (hb.below (hbel.mono hB')).at_ hkm
        go_wp2
        go_roundw
        case rel =>
          obtain ⟨q', hq', hq1, e1, e2⟩ := diff_digit x y q hxl hyl hq
          refine ⟨k + 1, q', R.set k ((x + 8589934592 - y - q) % 4294967296), by omega, by go_num, by rw [← e2], hq1, by rw [← e1]; exact hR.set k _, limbs_set hL k (by omega), by rw [Hid, List.length_set]; exact hlen.out, ?_, hbel.setCell (by simp) _⟩
          rw [Hid, val_take_succ xs, val_take_succ ys, val_set_take R k _ (by rw [hlen.out]; omega), ← hx.out, ← hy.out, Nat.pow_succ]
          exact diff_step hv.out hq'
        case measure => simp [intOf]; omega
      · go_wp2
        go_roundw
        case rel =>
          obtain ⟨q', hq', hq1, e1, e2⟩ := diff_digit x 0 q hxl (by omega) hq
          have e3 : IntKind.u64.wrap (IntKind.u64.wrap ((x : Int) - q) - (0 : Nat)) = IntKind.u64.wrap ((x : Int) - q) := by
            rw [IntKind.wrap_u64, IntKind.wrap_u64]; omega
          rw [e3] at e1 e2
          have hy : ys.getD k 0 = 0 := by rw [List.getD_eq_getElem?_getD, List.getElem?_eq_none (by rw [hb.len]; omega)]; rfl
          refine ⟨k + 1, q', R.set k ((x + 8589934592 - 0 - q) % 4294967296), by omega, by go_num, by rw [← e2], hq1, by rw [← e1]; exact hR.set k _, limbs_set hL k (by omega), by rw [Hid, List.length_set]; exact hlen.out, ?_, hbel.setCell (by simp) _⟩
          rw [Hid, val_take_succ xs, val_take_succ ys, val_set_take R k _ (by rw [hlen.out]; omega), ← hx.out, hy, Nat.pow_succ]
          exact diff_step hv.out hq'
        case measure => simp [intOf]; omega
    · obtain rfl : k = n := by omega
      go_wp2
      go_ret
      refine ⟨R, ⟨_, _, _, rfl, hR.len_lim hL k hlen.out (by omega), hbel⟩, ?_, hlen.out⟩
      have e2 := hv.out
      rw [List.take_of_length_le (l := xs) (by rw [ha.len]; exact Nat.le_refl _), List.take_of_length_le (l := ys) (by rw [hb.len]; exact hmn), List.take_of_length_le (l := R) (by rw [hlen.out]; exact Nat.le_refl _)] at e2
      have h1 := val_lt hL
      rw [hlen.out] at h1
      have h2 := HLE.out
      have h3 : q = 0 := by
        rcases Nat.eq_zero_or_pos q with e | e
        · exact e
        · have : q = 1 := by omega
          subst this
          omega
      subst h3
      omega
end Go.Proofs.YtclmenpclkmfeaaDoor
