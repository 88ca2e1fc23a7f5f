/- The walk of the law IntegerText, given what its fixed examples return. -/
import Derived.Test.YtnlmdjbakcjhbaaDoorVTxtMath
import Derived.Test.YtnlmdjbakcjhbaaDoorVRText
import Derived.Test.YtnlmdjbakcjhbaaDoorVG9DivMod
import Derived.Test.YtnlmdjbakcjhbaaDoorVLawBase
import Derived.Test.YtnlmdjbakcjhbaaDoorVLawKit
namespace Go.Proofs.YtnlmdjbakcjhbaaDoor
open Go.RowKit
set_option maxRecDepth 1000000 in
set_option maxHeartbeats 4000000 in
theorem law_text_good (HS : SanOk) (A1 : Option Addr) (n1 c1 : Nat) (s1 : Bool) (t X : ByteArray) (a bz : Int) (w : World) (hsz : t.size ≤ 100)
    (HM1 : Hid (∀ W, Below w.heap.size w W → Calls Tryd.prog 10 #[.agg #[.slice A1 n1 c1, .bool s1]] W (RetInt W a)))
    (HTX : Hid (∀ W g A n c, IsInt W g A n c a → Calls Tryd.prog 19 #[.agg #[.bool g, .slice A n c]] W fun e w' => e = .returned (.string X) ∧ Below W.heap.size W w'))
    (HRX : Hid (∀ W, Calls Tryd.prog 20 #[.string X] W (RetIE W a 0)))
    (HRT : Hid (∀ W, Calls Tryd.prog 20 #[.string t] W (RetIE W bz 0)))
    (HQT : Hid (∀ W, Calls Tryd.prog 21 #[.string t] W (RetIE W bz 0)))
    (HTB : Hid (∀ W g A n c, IsInt W g A n c bz → Calls Tryd.prog 19 #[.agg #[.bool g, .slice A n c]] W fun e w' => e = .returned (.string t) ∧ Below W.heap.size W w'))
    (HRX2 : Hid (∀ W g A n c, IsInt W g A n c a → Calls Tryd.prog 22 #[.agg #[.bool g, .slice A n c]] W fun e w' => e = .returned (.string X) ∧ Below W.heap.size W w')) :
    Calls Tryd.prog 4 #[.agg #[.slice A1 n1 c1, .bool s1], .string t] w fun e w' => e = .returned (.bool true) ∧ Below w.heap.size w w' := by
  have HS' := Lib.hid HS
  clear HS
  have hz1 : ¬ (100 : Int) < (t.size : Int) := by omega
  obtain ⟨B0, X0⟩ := frameR1 w (.slice A1 n1 c1) (.bool s1)
  go_enter Tryd.func4, Tryd.ntmps4
  go_wp2_with fail
  refine (HS'.out _).mono ?_
  rintro e w1 ⟨rfl, hb1⟩
  have BH := B0.trans (hb1.mono B0.size)
  have ⟨x0, x1, _, _, _⟩ := X0.after hb1
  clear X0 B0 hb1
  have BG0 := bag_nil w1
  have B0 := BH
  go_wp2_with fail
  (with_reducible refine (HM1.out _ BH).mono ?_)
  rintro e w2 ⟨gr1, Ar1, nr1, cr1, rfl, ir1, hb1⟩
  clear x0 x1 BH
  have BG1 := (BG0.after hb1).new ir1
  have B1 := (B0.trans (hb1.mono B0.size)).alloc (Nat.le_trans B0.size hb1.size) (.cells #[.bool gr1, .slice Ar1 nr1 cr1] 27)
  clear BG0 B0 ir1 hb1
  obtain ⟨ga, Aa, na, ca, Sa, Ia⟩ := BG1 (w2.heap.size, a) (by simp)
  have ⟨xa, ya, _, _, _⟩ := Sa
  go_wp2_with fail
  generalize w2.heap.size = b6 at *
  generalize hW : w2.alloc (.cells #[.bool gr1, .slice Ar1 nr1 cr1] 27) = W1 at *
  clear hW
  go_wp2_with fail
  (with_reducible refine (HTX.out _ ga Aa na ca Ia).mono ?_)
  rintro e w6 ⟨rfl, hb1⟩
  have BG2 := BG1.after hb1
  have B2 := B1.trans (hb1.mono B1.size)
  clear xa ya Sa Ia BG1 B1 hb1
  go_wp2_with fail
  (with_reducible refine (HRX.out _).mono ?_)
  rintro e w3 ⟨gr1, Ar1, nr1, cr1, rfl, ir1, hb1⟩
  have BG3 := (BG2.after hb1).new ir1
  have B3 := (B2.trans (hb1.mono B2.size)).alloc (Nat.le_trans B2.size hb1.size) (.cells #[.bool gr1, .slice Ar1 nr1 cr1] 27)
  clear BG2 B2 ir1 hb1

  go_wp2_with fail
  generalize w3.heap.size = b8 at *
  generalize hW : w3.alloc (.cells #[.bool gr1, .slice Ar1 nr1 cr1] 27) = W3 at *
  clear hW
  go_wp2_with fail
  (with_reducible refine (HRT.out _).mono ?_)
  rintro e w4 ⟨gr1, Ar1, nr1, cr1, rfl, ir1, hb1⟩
  have BG4 := (BG3.after hb1).new ir1
  have B4 := (B3.trans (hb1.mono B3.size)).alloc (Nat.le_trans B3.size hb1.size) (.cells #[.bool gr1, .slice Ar1 nr1 cr1] 27)
  clear BG3 B3 ir1 hb1

  go_wp2_with fail
  generalize w4.heap.size = b10 at *
  generalize hW : w4.alloc (.cells #[.bool gr1, .slice Ar1 nr1 cr1] 27) = W4 at *
  clear hW
  go_wp2_with fail
  (with_reducible refine (HQT.out _).mono ?_)
  rintro e w5 ⟨gr1, Ar1, nr1, cr1, rfl, ir1, hb1⟩
  have BG5 := (BG4.after hb1).new ir1
  have B5 := (B4.trans (hb1.mono B4.size)).alloc (Nat.le_trans B4.size hb1.size) (.cells #[.bool gr1, .slice Ar1 nr1 cr1] 27)
  clear BG4 B4 ir1 hb1
  obtain ⟨gb, Ab, nb, cb, Sb, Ib⟩ := BG5 (b10, bz) (by simp)
  have ⟨xb, yb, _, _, _⟩ := Sb
  go_wp2_with fail
  generalize w5.heap.size = b12 at *
  generalize hW : w5.alloc (.cells #[.bool gr1, .slice Ar1 nr1 cr1] 27) = W5 at *
  clear hW
  go_wp2_with fail
  (with_reducible refine (HTB.out _ gb Ab nb cb Ib).mono ?_)
  rintro e w6 ⟨rfl, hb1⟩
  have BG6 := BG5.after hb1
  have B6 := B5.trans (hb1.mono B5.size)
  clear xb yb Sb Ib BG5 B5 hb1
  obtain ⟨ga, Aa, na, ca, Sa, Ia⟩ := BG6 (b6, a) (by simp)
  have ⟨xa, ya, _, _, _⟩ := Sa
  go_wp2_with fail
  (with_reducible refine (HRX2.out _ ga Aa na ca Ia).mono ?_)
  rintro e w7 ⟨rfl, hb1⟩
  have BG7 := BG6.after hb1
  have B7 := B6.trans (hb1.mono B6.size)
  clear xa ya Sa Ia BG6 B6 hb1
  obtain ⟨ga, Aa, na, ca, Sa, Ia⟩ := BG7 (b6, a) (by simp)
  have ⟨xa, ya, _, _, _⟩ := Sa
  obtain ⟨gk, Ak, nk, ck, Sk, Ik⟩ := BG7 (b8, a) (by simp)
  have ⟨xk, yk, _, _, _⟩ := Sk
  go_wp2_with fail
  (with_reducible refine (same_z gk ga Ak Aa nk ck na ca _ Ik Ia rfl).mono ?_)
  rintro e w8 ⟨rfl, hb1⟩
  have BG8 := BG7.after hb1
  have B8 := B7.trans (hb1.mono B7.size)
  clear xa ya Sa Ia xk yk Sk Ik BG7 B7 hb1
  obtain ⟨gb, Ab, nb, cb, Sb, Ib⟩ := BG8 (b10, bz) (by simp)
  have ⟨xb, yb, _, _, _⟩ := Sb
  obtain ⟨gv, Av, nv, cv, Sv, Iv⟩ := BG8 (b12, bz) (by simp)
  have ⟨xv, yv, _, _, _⟩ := Sv
  go_wp2_with fail
  (with_reducible refine (same_z gb gv Ab Av nb cb nv cv _ Ib Iv rfl).mono ?_)
  rintro e w9 ⟨rfl, hb1⟩
  have B9 := B8.trans (hb1.mono B8.size)
  clear xb yb Sb Ib xv yv Sv Iv BG8 B8 hb1
  go_wp2
  go_ret
  exact ⟨rfl, B9⟩
set_option maxRecDepth 1000000 in
set_option maxHeartbeats 4000000 in
theorem law_text_bad (HS : SanOk) (A1 : Option Addr) (n1 c1 : Nat) (s1 : Bool) (t X : ByteArray) (a bz : Int) (w : World) (hsz : t.size ≤ 100)
    (HM1 : Hid (∀ W, Below w.heap.size w W → Calls Tryd.prog 10 #[.agg #[.slice A1 n1 c1, .bool s1]] W (RetInt W a)))
    (HTX : Hid (∀ W g A n c, IsInt W g A n c a → Calls Tryd.prog 19 #[.agg #[.bool g, .slice A n c]] W fun e w' => e = .returned (.string X) ∧ Below W.heap.size W w'))
    (HRX : Hid (∀ W, Calls Tryd.prog 20 #[.string X] W (RetIE W a 0)))
    (HRT : Hid (∀ W, Calls Tryd.prog 20 #[.string t] W (RetIE W bz 4)))
    (HQT : Hid (∀ W, Calls Tryd.prog 21 #[.string t] W (RetIE W bz 4)))
    (HRX2 : Hid (∀ W g A n c, IsInt W g A n c a → Calls Tryd.prog 22 #[.agg #[.bool g, .slice A n c]] W fun e w' => e = .returned (.string X) ∧ Below W.heap.size W w')) :
    Calls Tryd.prog 4 #[.agg #[.slice A1 n1 c1, .bool s1], .string t] w fun e w' => e = .returned (.bool true) ∧ Below w.heap.size w w' := by
  have HS' := Lib.hid HS
  clear HS
  have hz1 : ¬ (100 : Int) < (t.size : Int) := by omega
  obtain ⟨B0, X0⟩ := frameR1 w (.slice A1 n1 c1) (.bool s1)
  go_enter Tryd.func4, Tryd.ntmps4
  go_wp2_with fail
  refine (HS'.out _).mono ?_
  rintro e w1 ⟨rfl, hb1⟩
  have BH := B0.trans (hb1.mono B0.size)
  have ⟨x0, x1, _, _, _⟩ := X0.after hb1
  clear X0 B0 hb1
  have BG0 := bag_nil w1
  have B0 := BH
  go_wp2_with fail
  (with_reducible refine (HM1.out _ BH).mono ?_)
  rintro e w2 ⟨gr1, Ar1, nr1, cr1, rfl, ir1, hb1⟩
  clear x0 x1 BH
  have BG1 := (BG0.after hb1).new ir1
  have B1 := (B0.trans (hb1.mono B0.size)).alloc (Nat.le_trans B0.size hb1.size) (.cells #[.bool gr1, .slice Ar1 nr1 cr1] 27)
  clear BG0 B0 ir1 hb1
  obtain ⟨ga, Aa, na, ca, Sa, Ia⟩ := BG1 (w2.heap.size, a) (by simp)
  have ⟨xa, ya, _, _, _⟩ := Sa
  go_wp2_with fail
  generalize w2.heap.size = b6 at *
  generalize hW : w2.alloc (.cells #[.bool gr1, .slice Ar1 nr1 cr1] 27) = W1 at *
  clear hW
  go_wp2_with fail
  (with_reducible refine (HTX.out _ ga Aa na ca Ia).mono ?_)
  rintro e w6 ⟨rfl, hb1⟩
  have BG2 := BG1.after hb1
  have B2 := B1.trans (hb1.mono B1.size)
  clear xa ya Sa Ia BG1 B1 hb1
  go_wp2_with fail
  (with_reducible refine (HRX.out _).mono ?_)
  rintro e w3 ⟨gr1, Ar1, nr1, cr1, rfl, ir1, hb1⟩
  have BG3 := (BG2.after hb1).new ir1
  have B3 := (B2.trans (hb1.mono B2.size)).alloc (Nat.le_trans B2.size hb1.size) (.cells #[.bool gr1, .slice Ar1 nr1 cr1] 27)
  clear BG2 B2 ir1 hb1

  go_wp2_with fail
  generalize w3.heap.size = b8 at *
  generalize hW : w3.alloc (.cells #[.bool gr1, .slice Ar1 nr1 cr1] 27) = W3 at *
  clear hW
  go_wp2_with fail
  (with_reducible refine (HRT.out _).mono ?_)
  rintro e w4 ⟨gr1, Ar1, nr1, cr1, rfl, ir1, hb1⟩
  have BG4 := (BG3.after hb1).new ir1
  have B4 := (B3.trans (hb1.mono B3.size)).alloc (Nat.le_trans B3.size hb1.size) (.cells #[.bool gr1, .slice Ar1 nr1 cr1] 27)
  clear BG3 B3 ir1 hb1

  go_wp2_with fail
  generalize w4.heap.size = b10 at *
  generalize hW : w4.alloc (.cells #[.bool gr1, .slice Ar1 nr1 cr1] 27) = W4 at *
  clear hW
  go_wp2_with fail
  (with_reducible refine (HQT.out _).mono ?_)
  rintro e w5 ⟨gr1, Ar1, nr1, cr1, rfl, ir1, hb1⟩
  have BG5 := (BG4.after hb1).new ir1
  have B5 := (B4.trans (hb1.mono B4.size)).alloc (Nat.le_trans B4.size hb1.size) (.cells #[.bool gr1, .slice Ar1 nr1 cr1] 27)
  clear BG4 B4 ir1 hb1
  obtain ⟨ga, Aa, na, ca, Sa, Ia⟩ := BG5 (b6, a) (by simp)
  have ⟨xa, ya, _, _, _⟩ := Sa
  go_wp2_with fail
  generalize w5.heap.size = b12 at *
  generalize hW : w5.alloc (.cells #[.bool gr1, .slice Ar1 nr1 cr1] 27) = W5 at *
  clear hW
  have BG6 := BG5
  have B6 := B5
  clear BG5 B5

  go_wp2_with fail
  (with_reducible refine (HRX2.out _ ga Aa na ca Ia).mono ?_)
  rintro e w7 ⟨rfl, hb1⟩
  have BG7 := BG6.after hb1
  have B7 := B6.trans (hb1.mono B6.size)
  clear xa ya Sa Ia BG6 B6 hb1
  obtain ⟨ga, Aa, na, ca, Sa, Ia⟩ := BG7 (b6, a) (by simp)
  have ⟨xa, ya, _, _, _⟩ := Sa
  obtain ⟨gk, Ak, nk, ck, Sk, Ik⟩ := BG7 (b8, a) (by simp)
  have ⟨xk, yk, _, _, _⟩ := Sk
  go_wp2_with fail
  (with_reducible refine (same_z gk ga Ak Aa nk ck na ca _ Ik Ia rfl).mono ?_)
  rintro e w8 ⟨rfl, hb1⟩
  have BG8 := BG7.after hb1
  have B8 := B7.trans (hb1.mono B7.size)
  clear xa ya Sa Ia xk yk Sk Ik BG7 B7 hb1
  obtain ⟨gb, Ab, nb, cb, Sb, Ib⟩ := BG8 (b10, bz) (by simp)
  have ⟨xb, yb, _, _, _⟩ := Sb
  obtain ⟨gv, Av, nv, cv, Sv, Iv⟩ := BG8 (b12, bz) (by simp)
  have ⟨xv, yv, _, _, _⟩ := Sv
  go_wp2_with fail
  (with_reducible refine (same_z gb gv Ab Av nb cb nv cv _ Ib Iv rfl).mono ?_)
  rintro e w9 ⟨rfl, hb1⟩
  have B9 := B8.trans (hb1.mono B8.size)
  clear xb yb Sb Ib xv yv Sv Iv BG8 B8 hb1
  go_wp2
  go_ret
  exact ⟨rfl, B9⟩
set_option maxHeartbeats 1000000 in
theorem law_text_long (HS : SanOk) (A1 : Option Addr) (n1 c1 : Nat) (s1 : Bool) (t : ByteArray) (w : World) (hsz : 100 < t.size) :
    Calls Tryd.prog 4 #[.agg #[.slice A1 n1 c1, .bool s1], .string t] w fun e w' => e = .returned (.bool true) ∧ Below w.heap.size w w' := by
  have HS' := Lib.hid HS
  clear HS
  have hz1 : (100 : Int) < (t.size : Int) := by omega
  obtain ⟨B0, X0⟩ := frameR1 w (.slice A1 n1 c1) (.bool s1)
  go_enter Tryd.func4, Tryd.ntmps4
  go_wp2_with fail
  refine (HS'.out _).mono ?_
  rintro e w1 ⟨rfl, hb1⟩
  have BH := B0.trans (hb1.mono B0.size)
  clear X0 B0 hb1
  go_wp2
  go_ret
  exact ⟨rfl, BH⟩
theorem law_text (HS : SanOk) (A1 : Option Addr) (n1 c1 : Nat) (s1 : Bool) (xs : List Nat) (t : ByteArray) (w : World) (ha : Lim w w.heap.size A1 n1 c1 xs) (_ht : t.size ≤ maxLen) :
    Calls Tryd.prog 4 #[.agg #[.slice A1 n1 c1, .bool s1], .string t] w fun e w' => e = .returned (.bool true) ∧ Below w.heap.size w w' := by
  rcases Nat.lt_or_ge 100 t.size with hsz | hsz
  · exact law_text_long HS A1 n1 c1 s1 t w hsz
  have M1 := fun W (hW : Below w.heap.size w W) => made_any s1 A1 n1 c1 w.heap.size xs W (ha.below hW) hW.size
  have Za := Sz.raw s1 xs 12 ha.lt (by decide)
  generalize zOf s1 (val (xs.take 12)) = a at M1 Za
  have TX : ∀ W g A n c, IsInt W g A n c a → Calls Tryd.prog 19 #[.agg #[.bool g, .slice A n c]] W fun e w' => e = .returned (.string (txt a)) ∧ Below W.heap.size W w' := fun W g A n c h => text_any g A n c a W h (h.sz Za)
  have RX2 : ∀ W g A n c, IsInt W g A n c a → Calls Tryd.prog 22 #[.agg #[.bool g, .slice A n c]] W fun e w' => e = .returned (.string (txt a)) ∧ Below W.heap.size W w' := fun W g A n c h => rtext_z g A n c W h Za (by decide)
  have RX : ∀ W, Calls Tryd.prog 20 #[.string (txt a)] W (RetIE W a 0) := fun W => by
    have h := read_ok (txt a) W (Nat.le_trans (txt_size Za (by decide)) (by decide)) (txt_ok a).1
    rwa [(txt_ok a).2] at h
  by_cases hok : readOk t
  · have Zb := readZ_sz hsz hok
    have hb := read_txt t hok
    refine law_text_good HS A1 n1 c1 s1 t (txt a) a (readZ t) w hsz (Lib.hid M1) (Lib.hid TX) (Lib.hid RX) (Lib.hid fun W => read_ok t W (by omega) hok) (Lib.hid fun W => ?_) (Lib.hid fun W g A n c h => ?_) (Lib.hid RX2)
    · refine (rread_any t W hsz).mono ?_
      rintro e w' (⟨_, h⟩ | ⟨h, _⟩)
      · exact h
      · exact absurd hok h
    · have h2 := text_any g A n c _ W h (h.sz Zb)
      rwa [hb] at h2
  · refine law_text_bad HS A1 n1 c1 s1 t (txt a) a 0 w hsz (Lib.hid M1) (Lib.hid TX) (Lib.hid RX) (Lib.hid fun W => read_bad t W (by omega) hok) (Lib.hid fun W => ?_) (Lib.hid RX2)
    refine (rread_any t W hsz).mono ?_
    rintro e w' (⟨h, _⟩ | ⟨_, h⟩)
    · exact absurd h hok
    · exact h
end Go.Proofs.YtnlmdjbakcjhbaaDoor
