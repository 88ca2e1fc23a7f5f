/- Contracts of operation.result, Add, Sub, Mul and Div. Contracts of rational.Sign, floor and Floor. Words for statements that assign several fractions at once. Contract of torsionref01.Read for at most 100 bytes. The decimal text of an integer and what Read makes of it. The text of a fraction determines it. Contract of torsionref01.Gcd. Contracts of torsionref02: Of, of, Whole, Number, Made, Same. -/
import Derived.Test.YtlpoboikompjfaaGreatDoorVG24RDM
import Derived.Test.YtlpoboikompjfaaGreatDoorVG1WordB
import Derived.Test.YtlpoboikompjfaaGreatDoorVG10DivMod
import Derived.Test.YtlpoboikompjfaaGreatDoorVG17DivModW
import Derived.Test.YtlpoboikompjfaaGreatDoorVG0RatMath
import Derived.Deep.LoopGhost
import Derived.Test.YtlpoboikompjfaaGreatDoorVG4RAdd
namespace Go.Proofs.YtlpoboikompjfaaGreatDoor
open Go.RowKit
theorem mf_run (fn : Fn) (first cap : Array Value) (w : World) : (Instr.makeFunc fn first cap).run Tryz.prog w = .ok (.func fn first cap) w := rfl

set_option maxRecDepth 1000000 in
set_option maxHeartbeats 4000000 in
theorem qres_plus_z (gxn : Bool) (Axn : Option Addr) (nxn cxn : Nat) (gxd : Bool) (Axd : Option Addr) (nxd cxd : Nat) (gyn : Bool) (Ayn : Option Addr) (nyn cyn : Nat) (gyd : Bool) (Ayd : Option Addr) (nyd cyd : Nat) {k l : Nat} {xn xd yn yd : Int} (w : World)
    (hxn : IsInt w gxn Axn nxn cxn xn) (hxd : IsInt w gxd Axd nxd cxd xd) (hyn : IsInt w gyn Ayn nyn cyn yn) (hyd : IsInt w gyd Ayd nyd cyd yd) (Zxn : Sz k xn) (Zxd : Sz k xd) (Zyn : Sz l yn) (Zyd : Sz l yd) (hk : k + l + 1 + 1 ≤ 10000) (h0 : xd * yd ≠ 0) :
    Calls Tryz.prog 68 #[.agg #[.func (.func 72) #[.agg #[.bool gxn, .slice Axn nxn cxn, .bool gxd, .slice Axd nxd cxd]] #[], .bool gyn, .slice Ayn nyn cyn, .bool gyd, .slice Ayd nyd cyd]] w ((RetRatE w (Rat.divInt (xn * yd + yn * xd) (xd * yd)) 0)) := by
  have b1 := (Below.refl w.heap.size w).alloc (Nat.le_refl _) (.cells #[.func (.func 72) #[.agg #[.bool gxn, .slice Axn nxn cxn, .bool gxd, .slice Axd nxd cxd]] #[], .bool gyn, .slice Ayn nyn cyn, .bool gyd, .slice Ayd nyd cyd] 77)
  have B0 := b1.alloc b1.size (.cells #[.bool false, .slice none 0 0, .bool false, .slice none 0 0] 28)
  have R0 := Slot4.new (w.alloc (.cells #[.func (.func 72) #[.agg #[.bool gxn, .slice Axn nxn cxn, .bool gxd, .slice Axd nxd cxd]] #[], .bool gyn, .slice Ayn nyn cyn, .bool gyd, .slice Ayd nyd cyd] 77)) (.bool false) (.slice none 0 0) (.bool false) (.slice none 0 0) 28
  simp only [World.size_alloc] at R0
  have s0 : ((w.alloc (.cells #[.func (.func 72) #[.agg #[.bool gxn, .slice Axn nxn cxn, .bool gxd, .slice Axd nxd cxd]] #[], .bool gyn, .slice Ayn nyn cyn, .bool gyd, .slice Ayd nyd cyd] 77)).alloc (.cells #[.bool false, .slice none 0 0, .bool false, .slice none 0 0] 28)).cell? ⟨w.heap.size, 0, none⟩ = some (.func (.func 72) #[.agg #[.bool gxn, .slice Axn nxn cxn, .bool gxd, .slice Axd nxd cxd]] #[]) := by simp
  have s1 : ((w.alloc (.cells #[.func (.func 72) #[.agg #[.bool gxn, .slice Axn nxn cxn, .bool gxd, .slice Axd nxd cxd]] #[], .bool gyn, .slice Ayn nyn cyn, .bool gyd, .slice Ayd nyd cyd] 77)).alloc (.cells #[.bool false, .slice none 0 0, .bool false, .slice none 0 0] 28)).cell? ⟨w.heap.size, 1, none⟩ = some (.bool gyn) := by simp
  have s2 : ((w.alloc (.cells #[.func (.func 72) #[.agg #[.bool gxn, .slice Axn nxn cxn, .bool gxd, .slice Axd nxd cxd]] #[], .bool gyn, .slice Ayn nyn cyn, .bool gyd, .slice Ayd nyd cyd] 77)).alloc (.cells #[.bool false, .slice none 0 0, .bool false, .slice none 0 0] 28)).cell? ⟨w.heap.size, 2, none⟩ = some (.slice Ayn nyn cyn) := by simp
  have s3 : ((w.alloc (.cells #[.func (.func 72) #[.agg #[.bool gxn, .slice Axn nxn cxn, .bool gxd, .slice Axd nxd cxd]] #[], .bool gyn, .slice Ayn nyn cyn, .bool gyd, .slice Ayd nyd cyd] 77)).alloc (.cells #[.bool false, .slice none 0 0, .bool false, .slice none 0 0] 28)).cell? ⟨w.heap.size, 3, none⟩ = some (.bool gyd) := by simp
  have s4 : ((w.alloc (.cells #[.func (.func 72) #[.agg #[.bool gxn, .slice Axn nxn cxn, .bool gxd, .slice Axd nxd cxd]] #[], .bool gyn, .slice Ayn nyn cyn, .bool gyd, .slice Ayd nyd cyd] 77)).alloc (.cells #[.bool false, .slice none 0 0, .bool false, .slice none 0 0] 28)).cell? ⟨w.heap.size, 4, none⟩ = some (.slice Ayd nyd cyd) := by simp
  have Ixn := hxn.below B0
  have Ixd := hxd.below B0
  have Iyn := hyn.below B0
  have Iyd := hyd.below B0
  have HZ := Lib.hid h0
  clear hxn hxd hyn hyd b1 h0
  go_enter Tryz.func68, Tryz.ntmps68
  generalize hW : (w.alloc (.cells #[.func (.func 72) #[.agg #[.bool gxn, .slice Axn nxn cxn, .bool gxd, .slice Axd nxd cxd]] #[], .bool gyn, .slice Ayn nyn cyn, .bool gyd, .slice Ayd nyd cyd] 77)).alloc (.cells #[.bool false, .slice none 0 0, .bool false, .slice none 0 0] 28) = W0 at *
  go_wp2_with fail
  try rw [hW]
  clear hW
  (with_reducible refine (qplus_z gxn Axn nxn cxn gxd Axd nxd cxd gyn Ayn nyn cyn gyd Ayd nyd cyd _ Ixn Ixd Iyn Iyd Zxn Zxd Zyn Zyd (by omega)).mono ?_)
  rintro e w1 ⟨gnp1, Anp1, nnp1, cnp1, gdp1, Adp1, ndp1, cdp1, rfl, ip1, jp1, bp1⟩
  have T2 := Slot4.new w1 (.bool gnp1) (.slice Anp1 nnp1 cnp1) (.bool gdp1) (.slice Adp1 ndp1 cdp1) 75
  have b2 := (Below.refl w1.heap.size w1).alloc (Nat.le_refl _) (.cells #[.bool gnp1, .slice Anp1 nnp1 cnp1, .bool gdp1, .slice Adp1 ndp1 cdp1] 75)
  have hb2 := bp1.trans (b2.mono bp1.size)
  have R2 := R0.after hb2
  have B2 := B0.trans (hb2.mono B0.size)
  have Jn := ip1.below b2
  have Jd := jp1.below b2
  clear s0 s1 s2 s3 s4 Ixn Ixd Iyn Iyd R0 B0 hb2 b2 bp1 ip1 jp1
  have ⟨t0, t1, t2, t3, _⟩ := T2
  generalize hW : w1.alloc (.cells #[.bool gnp1, .slice Anp1 nnp1 cnp1, .bool gdp1, .slice Adp1 ndp1 cdp1] 75) = W2 at *
  go_wp2_with fail
  try rw [hW]
  clear hW
  (with_reducible refine (qof_z gnp1 Anp1 nnp1 cnp1 gdp1 Adp1 ndp1 cdp1 _ Jn Jd ((Zxn.mul Zyd (by omega)).add (by rw [Nat.add_comm]; exact Zyn.mul Zxd (by omega)) (by omega)) ((Zxd.mul Zyd (by omega)).mono (by omega) (by omega)) (by omega) HZ.out).mono ?_)
  rintro e w3 ⟨gnp2, Anp2, nnp2, cnp2, gdp2, Adp2, ndp2, cdp2, rfl, ip2, bp2⟩
  have R3 := R2.after bp2
  have B3 := B2.trans (bp2.mono B2.size)
  clear t0 t1 t2 t3 T2 R2 B2 Jn Jd
  have ⟨r0, r1, r2, r3, k0, k1, k2, k3, _⟩ := R3
  go_wp2
  refine bodyPost_ret (v := .tuple #[.agg #[.bool gnp2, .slice Anp2 nnp2 cnp2, .bool gdp2, .slice Adp2 ndp2 cdp2], .int .i64 0]) (by obtain ⟨v0, v1, v2, v3⟩ := R3.set4e (.bool gnp2) (.slice Anp2 nnp2 cnp2) (.bool gdp2) (.slice Adp2 ndp2 cdp2); simp [results, Tryz.results68, go_sem, v0, v1, v2, v3]) rfl ⟨_, _, _, _, _, _, _, _, rfl, ip2.stored4 R3 rfl rfl rfl rfl _ _ _ _, ?_⟩
  exact Below.set4 B3 (by omega) _ _ _ _
set_option maxRecDepth 1000000 in
set_option maxHeartbeats 4000000 in
theorem qres_minus_z (gxn : Bool) (Axn : Option Addr) (nxn cxn : Nat) (gxd : Bool) (Axd : Option Addr) (nxd cxd : Nat) (gyn : Bool) (Ayn : Option Addr) (nyn cyn : Nat) (gyd : Bool) (Ayd : Option Addr) (nyd cyd : Nat) {k l : Nat} {xn xd yn yd : Int} (w : World)
    (hxn : IsInt w gxn Axn nxn cxn xn) (hxd : IsInt w gxd Axd nxd cxd xd) (hyn : IsInt w gyn Ayn nyn cyn yn) (hyd : IsInt w gyd Ayd nyd cyd yd) (Zxn : Sz k xn) (Zxd : Sz k xd) (Zyn : Sz l yn) (Zyd : Sz l yd) (hk : k + l + 1 + 1 ≤ 10000) (h0 : xd * yd ≠ 0) :
    Calls Tryz.prog 68 #[.agg #[.func (.func 74) #[.agg #[.bool gxn, .slice Axn nxn cxn, .bool gxd, .slice Axd nxd cxd]] #[], .bool gyn, .slice Ayn nyn cyn, .bool gyd, .slice Ayd nyd cyd]] w ((RetRatE w (Rat.divInt (xn * yd + -yn * xd) (xd * yd)) 0)) := by
  have b1 := (Below.refl w.heap.size w).alloc (Nat.le_refl _) (.cells #[.func (.func 74) #[.agg #[.bool gxn, .slice Axn nxn cxn, .bool gxd, .slice Axd nxd cxd]] #[], .bool gyn, .slice Ayn nyn cyn, .bool gyd, .slice Ayd nyd cyd] 77)
  have B0 := b1.alloc b1.size (.cells #[.bool false, .slice none 0 0, .bool false, .slice none 0 0] 28)
  have R0 := Slot4.new (w.alloc (.cells #[.func (.func 74) #[.agg #[.bool gxn, .slice Axn nxn cxn, .bool gxd, .slice Axd nxd cxd]] #[], .bool gyn, .slice Ayn nyn cyn, .bool gyd, .slice Ayd nyd cyd] 77)) (.bool false) (.slice none 0 0) (.bool false) (.slice none 0 0) 28
  simp only [World.size_alloc] at R0
  have s0 : ((w.alloc (.cells #[.func (.func 74) #[.agg #[.bool gxn, .slice Axn nxn cxn, .bool gxd, .slice Axd nxd cxd]] #[], .bool gyn, .slice Ayn nyn cyn, .bool gyd, .slice Ayd nyd cyd] 77)).alloc (.cells #[.bool false, .slice none 0 0, .bool false, .slice none 0 0] 28)).cell? ⟨w.heap.size, 0, none⟩ = some (.func (.func 74) #[.agg #[.bool gxn, .slice Axn nxn cxn, .bool gxd, .slice Axd nxd cxd]] #[]) := by simp
  have s1 : ((w.alloc (.cells #[.func (.func 74) #[.agg #[.bool gxn, .slice Axn nxn cxn, .bool gxd, .slice Axd nxd cxd]] #[], .bool gyn, .slice Ayn nyn cyn, .bool gyd, .slice Ayd nyd cyd] 77)).alloc (.cells #[.bool false, .slice none 0 0, .bool false, .slice none 0 0] 28)).cell? ⟨w.heap.size, 1, none⟩ = some (.bool gyn) := by simp
  have s2 : ((w.alloc (.cells #[.func (.func 74) #[.agg #[.bool gxn, .slice Axn nxn cxn, .bool gxd, .slice Axd nxd cxd]] #[], .bool gyn, .slice Ayn nyn cyn, .bool gyd, .slice Ayd nyd cyd] 77)).alloc (.cells #[.bool false, .slice none 0 0, .bool false, .slice none 0 0] 28)).cell? ⟨w.heap.size, 2, none⟩ = some (.slice Ayn nyn cyn) := by simp
  have s3 : ((w.alloc (.cells #[.func (.func 74) #[.agg #[.bool gxn, .slice Axn nxn cxn, .bool gxd, .slice Axd nxd cxd]] #[], .bool gyn, .slice Ayn nyn cyn, .bool gyd, .slice Ayd nyd cyd] 77)).alloc (.cells #[.bool false, .slice none 0 0, .bool false, .slice none 0 0] 28)).cell? ⟨w.heap.size, 3, none⟩ = some (.bool gyd) := by simp
  have s4 : ((w.alloc (.cells #[.func (.func 74) #[.agg #[.bool gxn, .slice Axn nxn cxn, .bool gxd, .slice Axd nxd cxd]] #[], .bool gyn, .slice Ayn nyn cyn, .bool gyd, .slice Ayd nyd cyd] 77)).alloc (.cells #[.bool false, .slice none 0 0, .bool false, .slice none 0 0] 28)).cell? ⟨w.heap.size, 4, none⟩ = some (.slice Ayd nyd cyd) := by simp
  have Ixn := hxn.below B0
  have Ixd := hxd.below B0
  have Iyn := hyn.below B0
  have Iyd := hyd.below B0
  have HZ := Lib.hid h0
  clear hxn hxd hyn hyd b1 h0
  go_enter Tryz.func68, Tryz.ntmps68
  generalize hW : (w.alloc (.cells #[.func (.func 74) #[.agg #[.bool gxn, .slice Axn nxn cxn, .bool gxd, .slice Axd nxd cxd]] #[], .bool gyn, .slice Ayn nyn cyn, .bool gyd, .slice Ayd nyd cyd] 77)).alloc (.cells #[.bool false, .slice none 0 0, .bool false, .slice none 0 0] 28) = W0 at *
  go_wp2_with fail
  try rw [hW]
  clear hW
  (with_reducible refine (qminus_z gxn Axn nxn cxn gxd Axd nxd cxd gyn Ayn nyn cyn gyd Ayd nyd cyd _ Ixn Ixd Iyn Iyd Zxn Zxd Zyn Zyd (by omega)).mono ?_)
  rintro e w1 ⟨gnp1, Anp1, nnp1, cnp1, gdp1, Adp1, ndp1, cdp1, rfl, ip1, jp1, bp1⟩
  have T2 := Slot4.new w1 (.bool gnp1) (.slice Anp1 nnp1 cnp1) (.bool gdp1) (.slice Adp1 ndp1 cdp1) 75
  have b2 := (Below.refl w1.heap.size w1).alloc (Nat.le_refl _) (.cells #[.bool gnp1, .slice Anp1 nnp1 cnp1, .bool gdp1, .slice Adp1 ndp1 cdp1] 75)
  have hb2 := bp1.trans (b2.mono bp1.size)
  have R2 := R0.after hb2
  have B2 := B0.trans (hb2.mono B0.size)
  have Jn := ip1.below b2
  have Jd := jp1.below b2
  clear s0 s1 s2 s3 s4 Ixn Ixd Iyn Iyd R0 B0 hb2 b2 bp1 ip1 jp1
  have ⟨t0, t1, t2, t3, _⟩ := T2
  generalize hW : w1.alloc (.cells #[.bool gnp1, .slice Anp1 nnp1 cnp1, .bool gdp1, .slice Adp1 ndp1 cdp1] 75) = W2 at *
  go_wp2_with fail
  try rw [hW]
  clear hW
  (with_reducible refine (qof_z gnp1 Anp1 nnp1 cnp1 gdp1 Adp1 ndp1 cdp1 _ Jn Jd ((Zxn.mul Zyd (by omega)).add (by rw [Nat.add_comm]; exact Zyn.neg.mul Zxd (by omega)) (by omega)) ((Zxd.mul Zyd (by omega)).mono (by omega) (by omega)) (by omega) HZ.out).mono ?_)
  rintro e w3 ⟨gnp2, Anp2, nnp2, cnp2, gdp2, Adp2, ndp2, cdp2, rfl, ip2, bp2⟩
  have R3 := R2.after bp2
  have B3 := B2.trans (bp2.mono B2.size)
  clear t0 t1 t2 t3 T2 R2 B2 Jn Jd
  have ⟨r0, r1, r2, r3, k0, k1, k2, k3, _⟩ := R3
  go_wp2
  refine bodyPost_ret (v := .tuple #[.agg #[.bool gnp2, .slice Anp2 nnp2 cnp2, .bool gdp2, .slice Adp2 ndp2 cdp2], .int .i64 0]) (by obtain ⟨v0, v1, v2, v3⟩ := R3.set4e (.bool gnp2) (.slice Anp2 nnp2 cnp2) (.bool gdp2) (.slice Adp2 ndp2 cdp2); simp [results, Tryz.results68, go_sem, v0, v1, v2, v3]) rfl ⟨_, _, _, _, _, _, _, _, rfl, ip2.stored4 R3 rfl rfl rfl rfl _ _ _ _, ?_⟩
  exact Below.set4 B3 (by omega) _ _ _ _
set_option maxRecDepth 1000000 in
set_option maxHeartbeats 4000000 in
theorem qres_times_z (gxn : Bool) (Axn : Option Addr) (nxn cxn : Nat) (gxd : Bool) (Axd : Option Addr) (nxd cxd : Nat) (gyn : Bool) (Ayn : Option Addr) (nyn cyn : Nat) (gyd : Bool) (Ayd : Option Addr) (nyd cyd : Nat) {k l : Nat} {xn xd yn yd : Int} (w : World)
    (hxn : IsInt w gxn Axn nxn cxn xn) (hxd : IsInt w gxd Axd nxd cxd xd) (hyn : IsInt w gyn Ayn nyn cyn yn) (hyd : IsInt w gyd Ayd nyd cyd yd) (Zxn : Sz k xn) (Zxd : Sz k xd) (Zyn : Sz l yn) (Zyd : Sz l yd) (hk : k + l + 1 ≤ 10000) (h0 : xd * yd ≠ 0) :
    Calls Tryz.prog 68 #[.agg #[.func (.func 75) #[.agg #[.bool gxn, .slice Axn nxn cxn, .bool gxd, .slice Axd nxd cxd]] #[], .bool gyn, .slice Ayn nyn cyn, .bool gyd, .slice Ayd nyd cyd]] w ((RetRatE w (Rat.divInt (xn * yn) (xd * yd)) 0)) := by
  have b1 := (Below.refl w.heap.size w).alloc (Nat.le_refl _) (.cells #[.func (.func 75) #[.agg #[.bool gxn, .slice Axn nxn cxn, .bool gxd, .slice Axd nxd cxd]] #[], .bool gyn, .slice Ayn nyn cyn, .bool gyd, .slice Ayd nyd cyd] 77)
  have B0 := b1.alloc b1.size (.cells #[.bool false, .slice none 0 0, .bool false, .slice none 0 0] 28)
  have R0 := Slot4.new (w.alloc (.cells #[.func (.func 75) #[.agg #[.bool gxn, .slice Axn nxn cxn, .bool gxd, .slice Axd nxd cxd]] #[], .bool gyn, .slice Ayn nyn cyn, .bool gyd, .slice Ayd nyd cyd] 77)) (.bool false) (.slice none 0 0) (.bool false) (.slice none 0 0) 28
  simp only [World.size_alloc] at R0
  have s0 : ((w.alloc (.cells #[.func (.func 75) #[.agg #[.bool gxn, .slice Axn nxn cxn, .bool gxd, .slice Axd nxd cxd]] #[], .bool gyn, .slice Ayn nyn cyn, .bool gyd, .slice Ayd nyd cyd] 77)).alloc (.cells #[.bool false, .slice none 0 0, .bool false, .slice none 0 0] 28)).cell? ⟨w.heap.size, 0, none⟩ = some (.func (.func 75) #[.agg #[.bool gxn, .slice Axn nxn cxn, .bool gxd, .slice Axd nxd cxd]] #[]) := by simp
  have s1 : ((w.alloc (.cells #[.func (.func 75) #[.agg #[.bool gxn, .slice Axn nxn cxn, .bool gxd, .slice Axd nxd cxd]] #[], .bool gyn, .slice Ayn nyn cyn, .bool gyd, .slice Ayd nyd cyd] 77)).alloc (.cells #[.bool false, .slice none 0 0, .bool false, .slice none 0 0] 28)).cell? ⟨w.heap.size, 1, none⟩ = some (.bool gyn) := by simp
  have s2 : ((w.alloc (.cells #[.func (.func 75) #[.agg #[.bool gxn, .slice Axn nxn cxn, .bool gxd, .slice Axd nxd cxd]] #[], .bool gyn, .slice Ayn nyn cyn, .bool gyd, .slice Ayd nyd cyd] 77)).alloc (.cells #[.bool false, .slice none 0 0, .bool false, .slice none 0 0] 28)).cell? ⟨w.heap.size, 2, none⟩ = some (.slice Ayn nyn cyn) := by simp
  have s3 : ((w.alloc (.cells #[.func (.func 75) #[.agg #[.bool gxn, .slice Axn nxn cxn, .bool gxd, .slice Axd nxd cxd]] #[], .bool gyn, .slice Ayn nyn cyn, .bool gyd, .slice Ayd nyd cyd] 77)).alloc (.cells #[.bool false, .slice none 0 0, .bool false, .slice none 0 0] 28)).cell? ⟨w.heap.size, 3, none⟩ = some (.bool gyd) := by simp
  have s4 : ((w.alloc (.cells #[.func (.func 75) #[.agg #[.bool gxn, .slice Axn nxn cxn, .bool gxd, .slice Axd nxd cxd]] #[], .bool gyn, .slice Ayn nyn cyn, .bool gyd, .slice Ayd nyd cyd] 77)).alloc (.cells #[.bool false, .slice none 0 0, .bool false, .slice none 0 0] 28)).cell? ⟨w.heap.size, 4, none⟩ = some (.slice Ayd nyd cyd) := by simp
  have Ixn := hxn.below B0
  have Ixd := hxd.below B0
  have Iyn := hyn.below B0
  have Iyd := hyd.below B0
  have HZ := Lib.hid h0
  clear hxn hxd hyn hyd b1 h0
  go_enter Tryz.func68, Tryz.ntmps68
  generalize hW : (w.alloc (.cells #[.func (.func 75) #[.agg #[.bool gxn, .slice Axn nxn cxn, .bool gxd, .slice Axd nxd cxd]] #[], .bool gyn, .slice Ayn nyn cyn, .bool gyd, .slice Ayd nyd cyd] 77)).alloc (.cells #[.bool false, .slice none 0 0, .bool false, .slice none 0 0] 28) = W0 at *
  go_wp2_with fail
  try rw [hW]
  clear hW
  (with_reducible refine (qtimes_z gxn Axn nxn cxn gxd Axd nxd cxd gyn Ayn nyn cyn gyd Ayd nyd cyd _ Ixn Ixd Iyn Iyd Zxn Zxd Zyn Zyd).mono ?_)
  rintro e w1 ⟨gnp1, Anp1, nnp1, cnp1, gdp1, Adp1, ndp1, cdp1, rfl, ip1, jp1, bp1⟩
  have T2 := Slot4.new w1 (.bool gnp1) (.slice Anp1 nnp1 cnp1) (.bool gdp1) (.slice Adp1 ndp1 cdp1) 75
  have b2 := (Below.refl w1.heap.size w1).alloc (Nat.le_refl _) (.cells #[.bool gnp1, .slice Anp1 nnp1 cnp1, .bool gdp1, .slice Adp1 ndp1 cdp1] 75)
  have hb2 := bp1.trans (b2.mono bp1.size)
  have R2 := R0.after hb2
  have B2 := B0.trans (hb2.mono B0.size)
  have Jn := ip1.below b2
  have Jd := jp1.below b2
  clear s0 s1 s2 s3 s4 Ixn Ixd Iyn Iyd R0 B0 hb2 b2 bp1 ip1 jp1
  have ⟨t0, t1, t2, t3, _⟩ := T2
  generalize hW : w1.alloc (.cells #[.bool gnp1, .slice Anp1 nnp1 cnp1, .bool gdp1, .slice Adp1 ndp1 cdp1] 75) = W2 at *
  go_wp2_with fail
  try rw [hW]
  clear hW
  (with_reducible refine (qof_z gnp1 Anp1 nnp1 cnp1 gdp1 Adp1 ndp1 cdp1 _ Jn Jd (Zxn.mul Zyn (by omega)) (Zxd.mul Zyd (by omega)) (by omega) HZ.out).mono ?_)
  rintro e w3 ⟨gnp2, Anp2, nnp2, cnp2, gdp2, Adp2, ndp2, cdp2, rfl, ip2, bp2⟩
  have R3 := R2.after bp2
  have B3 := B2.trans (bp2.mono B2.size)
  clear t0 t1 t2 t3 T2 R2 B2 Jn Jd
  have ⟨r0, r1, r2, r3, k0, k1, k2, k3, _⟩ := R3
  go_wp2
  refine bodyPost_ret (v := .tuple #[.agg #[.bool gnp2, .slice Anp2 nnp2 cnp2, .bool gdp2, .slice Adp2 ndp2 cdp2], .int .i64 0]) (by obtain ⟨v0, v1, v2, v3⟩ := R3.set4e (.bool gnp2) (.slice Anp2 nnp2 cnp2) (.bool gdp2) (.slice Adp2 ndp2 cdp2); simp [results, Tryz.results68, go_sem, v0, v1, v2, v3]) rfl ⟨_, _, _, _, _, _, _, _, rfl, ip2.stored4 R3 rfl rfl rfl rfl _ _ _ _, ?_⟩
  exact Below.set4 B3 (by omega) _ _ _ _
set_option maxRecDepth 1000000 in
set_option maxHeartbeats 4000000 in
theorem qres_over_z (gxn : Bool) (Axn : Option Addr) (nxn cxn : Nat) (gxd : Bool) (Axd : Option Addr) (nxd cxd : Nat) (gyn : Bool) (Ayn : Option Addr) (nyn cyn : Nat) (gyd : Bool) (Ayd : Option Addr) (nyd cyd : Nat) {k l : Nat} {xn xd yn yd : Int} (w : World)
    (hxn : IsInt w gxn Axn nxn cxn xn) (hxd : IsInt w gxd Axd nxd cxd xd) (hyn : IsInt w gyn Ayn nyn cyn yn) (hyd : IsInt w gyd Ayd nyd cyd yd) (Zxn : Sz k xn) (Zxd : Sz k xd) (Zyn : Sz l yn) (Zyd : Sz l yd) (hk : k + l + 1 ≤ 10000) (h0 : xd * yn ≠ 0) :
    Calls Tryz.prog 68 #[.agg #[.func (.func 67) #[.agg #[.bool gxn, .slice Axn nxn cxn, .bool gxd, .slice Axd nxd cxd]] #[], .bool gyn, .slice Ayn nyn cyn, .bool gyd, .slice Ayd nyd cyd]] w ((RetRatE w (Rat.divInt (xn * yd) (xd * yn)) 0)) := by
  have b1 := (Below.refl w.heap.size w).alloc (Nat.le_refl _) (.cells #[.func (.func 67) #[.agg #[.bool gxn, .slice Axn nxn cxn, .bool gxd, .slice Axd nxd cxd]] #[], .bool gyn, .slice Ayn nyn cyn, .bool gyd, .slice Ayd nyd cyd] 77)
  have B0 := b1.alloc b1.size (.cells #[.bool false, .slice none 0 0, .bool false, .slice none 0 0] 28)
  have R0 := Slot4.new (w.alloc (.cells #[.func (.func 67) #[.agg #[.bool gxn, .slice Axn nxn cxn, .bool gxd, .slice Axd nxd cxd]] #[], .bool gyn, .slice Ayn nyn cyn, .bool gyd, .slice Ayd nyd cyd] 77)) (.bool false) (.slice none 0 0) (.bool false) (.slice none 0 0) 28
  simp only [World.size_alloc] at R0
  have s0 : ((w.alloc (.cells #[.func (.func 67) #[.agg #[.bool gxn, .slice Axn nxn cxn, .bool gxd, .slice Axd nxd cxd]] #[], .bool gyn, .slice Ayn nyn cyn, .bool gyd, .slice Ayd nyd cyd] 77)).alloc (.cells #[.bool false, .slice none 0 0, .bool false, .slice none 0 0] 28)).cell? ⟨w.heap.size, 0, none⟩ = some (.func (.func 67) #[.agg #[.bool gxn, .slice Axn nxn cxn, .bool gxd, .slice Axd nxd cxd]] #[]) := by simp
  have s1 : ((w.alloc (.cells #[.func (.func 67) #[.agg #[.bool gxn, .slice Axn nxn cxn, .bool gxd, .slice Axd nxd cxd]] #[], .bool gyn, .slice Ayn nyn cyn, .bool gyd, .slice Ayd nyd cyd] 77)).alloc (.cells #[.bool false, .slice none 0 0, .bool false, .slice none 0 0] 28)).cell? ⟨w.heap.size, 1, none⟩ = some (.bool gyn) := by simp
  have s2 : ((w.alloc (.cells #[.func (.func 67) #[.agg #[.bool gxn, .slice Axn nxn cxn, .bool gxd, .slice Axd nxd cxd]] #[], .bool gyn, .slice Ayn nyn cyn, .bool gyd, .slice Ayd nyd cyd] 77)).alloc (.cells #[.bool false, .slice none 0 0, .bool false, .slice none 0 0] 28)).cell? ⟨w.heap.size, 2, none⟩ = some (.slice Ayn nyn cyn) := by simp
  have s3 : ((w.alloc (.cells #[.func (.func 67) #[.agg #[.bool gxn, .slice Axn nxn cxn, .bool gxd, .slice Axd nxd cxd]] #[], .bool gyn, .slice Ayn nyn cyn, .bool gyd, .slice Ayd nyd cyd] 77)).alloc (.cells #[.bool false, .slice none 0 0, .bool false, .slice none 0 0] 28)).cell? ⟨w.heap.size, 3, none⟩ = some (.bool gyd) := by simp
  have s4 : ((w.alloc (.cells #[.func (.func 67) #[.agg #[.bool gxn, .slice Axn nxn cxn, .bool gxd, .slice Axd nxd cxd]] #[], .bool gyn, .slice Ayn nyn cyn, .bool gyd, .slice Ayd nyd cyd] 77)).alloc (.cells #[.bool false, .slice none 0 0, .bool false, .slice none 0 0] 28)).cell? ⟨w.heap.size, 4, none⟩ = some (.slice Ayd nyd cyd) := by simp
  have Ixn := hxn.below B0
  have Ixd := hxd.below B0
  have Iyn := hyn.below B0
  have Iyd := hyd.below B0
  have HZ := Lib.hid h0
  clear hxn hxd hyn hyd b1 h0
  go_enter Tryz.func68, Tryz.ntmps68
  generalize hW : (w.alloc (.cells #[.func (.func 67) #[.agg #[.bool gxn, .slice Axn nxn cxn, .bool gxd, .slice Axd nxd cxd]] #[], .bool gyn, .slice Ayn nyn cyn, .bool gyd, .slice Ayd nyd cyd] 77)).alloc (.cells #[.bool false, .slice none 0 0, .bool false, .slice none 0 0] 28) = W0 at *
  go_wp2_with fail
  try rw [hW]
  clear hW
  (with_reducible refine (qover_z gxn Axn nxn cxn gxd Axd nxd cxd gyn Ayn nyn cyn gyd Ayd nyd cyd _ Ixn Ixd Iyn Iyd Zxn Zxd Zyn Zyd).mono ?_)
  rintro e w1 ⟨gnp1, Anp1, nnp1, cnp1, gdp1, Adp1, ndp1, cdp1, rfl, ip1, jp1, bp1⟩
  have T2 := Slot4.new w1 (.bool gnp1) (.slice Anp1 nnp1 cnp1) (.bool gdp1) (.slice Adp1 ndp1 cdp1) 75
  have b2 := (Below.refl w1.heap.size w1).alloc (Nat.le_refl _) (.cells #[.bool gnp1, .slice Anp1 nnp1 cnp1, .bool gdp1, .slice Adp1 ndp1 cdp1] 75)
  have hb2 := bp1.trans (b2.mono bp1.size)
  have R2 := R0.after hb2
  have B2 := B0.trans (hb2.mono B0.size)
  have Jn := ip1.below b2
  have Jd := jp1.below b2
  clear s0 s1 s2 s3 s4 Ixn Ixd Iyn Iyd R0 B0 hb2 b2 bp1 ip1 jp1
  have ⟨t0, t1, t2, t3, _⟩ := T2
  generalize hW : w1.alloc (.cells #[.bool gnp1, .slice Anp1 nnp1 cnp1, .bool gdp1, .slice Adp1 ndp1 cdp1] 75) = W2 at *
  go_wp2_with fail
  try rw [hW]
  clear hW
  (with_reducible refine (qof_z gnp1 Anp1 nnp1 cnp1 gdp1 Adp1 ndp1 cdp1 _ Jn Jd (Zxn.mul Zyd (by omega)) (Zxd.mul Zyn (by omega)) (by omega) HZ.out).mono ?_)
  rintro e w3 ⟨gnp2, Anp2, nnp2, cnp2, gdp2, Adp2, ndp2, cdp2, rfl, ip2, bp2⟩
  have R3 := R2.after bp2
  have B3 := B2.trans (bp2.mono B2.size)
  clear t0 t1 t2 t3 T2 R2 B2 Jn Jd
  have ⟨r0, r1, r2, r3, k0, k1, k2, k3, _⟩ := R3
  go_wp2
  refine bodyPost_ret (v := .tuple #[.agg #[.bool gnp2, .slice Anp2 nnp2 cnp2, .bool gdp2, .slice Adp2 ndp2 cdp2], .int .i64 0]) (by obtain ⟨v0, v1, v2, v3⟩ := R3.set4e (.bool gnp2) (.slice Anp2 nnp2 cnp2) (.bool gdp2) (.slice Adp2 ndp2 cdp2); simp [results, Tryz.results68, go_sem, v0, v1, v2, v3]) rfl ⟨_, _, _, _, _, _, _, _, rfl, ip2.stored4 R3 rfl rfl rfl rfl _ _ _ _, ?_⟩
  exact Below.set4 B3 (by omega) _ _ _ _
set_option maxRecDepth 1000000 in
set_option maxHeartbeats 4000000 in
theorem qres_over_bad (gxn : Bool) (Axn : Option Addr) (nxn cxn : Nat) (gxd : Bool) (Axd : Option Addr) (nxd cxd : Nat) (gyn : Bool) (Ayn : Option Addr) (nyn cyn : Nat) (gyd : Bool) (Ayd : Option Addr) (nyd cyd : Nat) {k l : Nat} {xn xd yn yd : Int} (w : World)
    (hxn : IsInt w gxn Axn nxn cxn xn) (hxd : IsInt w gxd Axd nxd cxd xd) (hyn : IsInt w gyn Ayn nyn cyn yn) (hyd : IsInt w gyd Ayd nyd cyd yd) (Zxn : Sz k xn) (Zxd : Sz k xd) (Zyn : Sz l yn) (Zyd : Sz l yd) (_hk : k + l + 1 ≤ 10000) (h0 : xd * yn = 0) :
    Calls Tryz.prog 68 #[.agg #[.func (.func 67) #[.agg #[.bool gxn, .slice Axn nxn cxn, .bool gxd, .slice Axd nxd cxd]] #[], .bool gyn, .slice Ayn nyn cyn, .bool gyd, .slice Ayd nyd cyd]] w (fun e w' => e = .returned (.tuple #[.agg #[.bool false, .slice none 0 0, .bool false, .slice none 0 0], .int .i64 3]) ∧ Below w.heap.size w w') := by
  have b1 := (Below.refl w.heap.size w).alloc (Nat.le_refl _) (.cells #[.func (.func 67) #[.agg #[.bool gxn, .slice Axn nxn cxn, .bool gxd, .slice Axd nxd cxd]] #[], .bool gyn, .slice Ayn nyn cyn, .bool gyd, .slice Ayd nyd cyd] 77)
  have B0 := b1.alloc b1.size (.cells #[.bool false, .slice none 0 0, .bool false, .slice none 0 0] 28)
  have R0 := Slot4.new (w.alloc (.cells #[.func (.func 67) #[.agg #[.bool gxn, .slice Axn nxn cxn, .bool gxd, .slice Axd nxd cxd]] #[], .bool gyn, .slice Ayn nyn cyn, .bool gyd, .slice Ayd nyd cyd] 77)) (.bool false) (.slice none 0 0) (.bool false) (.slice none 0 0) 28
  simp only [World.size_alloc] at R0
  have s0 : ((w.alloc (.cells #[.func (.func 67) #[.agg #[.bool gxn, .slice Axn nxn cxn, .bool gxd, .slice Axd nxd cxd]] #[], .bool gyn, .slice Ayn nyn cyn, .bool gyd, .slice Ayd nyd cyd] 77)).alloc (.cells #[.bool false, .slice none 0 0, .bool false, .slice none 0 0] 28)).cell? ⟨w.heap.size, 0, none⟩ = some (.func (.func 67) #[.agg #[.bool gxn, .slice Axn nxn cxn, .bool gxd, .slice Axd nxd cxd]] #[]) := by simp
  have s1 : ((w.alloc (.cells #[.func (.func 67) #[.agg #[.bool gxn, .slice Axn nxn cxn, .bool gxd, .slice Axd nxd cxd]] #[], .bool gyn, .slice Ayn nyn cyn, .bool gyd, .slice Ayd nyd cyd] 77)).alloc (.cells #[.bool false, .slice none 0 0, .bool false, .slice none 0 0] 28)).cell? ⟨w.heap.size, 1, none⟩ = some (.bool gyn) := by simp
  have s2 : ((w.alloc (.cells #[.func (.func 67) #[.agg #[.bool gxn, .slice Axn nxn cxn, .bool gxd, .slice Axd nxd cxd]] #[], .bool gyn, .slice Ayn nyn cyn, .bool gyd, .slice Ayd nyd cyd] 77)).alloc (.cells #[.bool false, .slice none 0 0, .bool false, .slice none 0 0] 28)).cell? ⟨w.heap.size, 2, none⟩ = some (.slice Ayn nyn cyn) := by simp
  have s3 : ((w.alloc (.cells #[.func (.func 67) #[.agg #[.bool gxn, .slice Axn nxn cxn, .bool gxd, .slice Axd nxd cxd]] #[], .bool gyn, .slice Ayn nyn cyn, .bool gyd, .slice Ayd nyd cyd] 77)).alloc (.cells #[.bool false, .slice none 0 0, .bool false, .slice none 0 0] 28)).cell? ⟨w.heap.size, 3, none⟩ = some (.bool gyd) := by simp
  have s4 : ((w.alloc (.cells #[.func (.func 67) #[.agg #[.bool gxn, .slice Axn nxn cxn, .bool gxd, .slice Axd nxd cxd]] #[], .bool gyn, .slice Ayn nyn cyn, .bool gyd, .slice Ayd nyd cyd] 77)).alloc (.cells #[.bool false, .slice none 0 0, .bool false, .slice none 0 0] 28)).cell? ⟨w.heap.size, 4, none⟩ = some (.slice Ayd nyd cyd) := by simp
  have Ixn := hxn.below B0
  have Ixd := hxd.below B0
  have Iyn := hyn.below B0
  have Iyd := hyd.below B0
  have HZ := Lib.hid h0
  clear hxn hxd hyn hyd b1 h0
  go_enter Tryz.func68, Tryz.ntmps68
  generalize hW : (w.alloc (.cells #[.func (.func 67) #[.agg #[.bool gxn, .slice Axn nxn cxn, .bool gxd, .slice Axd nxd cxd]] #[], .bool gyn, .slice Ayn nyn cyn, .bool gyd, .slice Ayd nyd cyd] 77)).alloc (.cells #[.bool false, .slice none 0 0, .bool false, .slice none 0 0] 28) = W0 at *
  go_wp2_with fail
  try rw [hW]
  clear hW
  (with_reducible refine (qover_z gxn Axn nxn cxn gxd Axd nxd cxd gyn Ayn nyn cyn gyd Ayd nyd cyd _ Ixn Ixd Iyn Iyd Zxn Zxd Zyn Zyd).mono ?_)
  rintro e w1 ⟨gnp1, Anp1, nnp1, cnp1, gdp1, Adp1, ndp1, cdp1, rfl, ip1, jp1, bp1⟩
  have T2 := Slot4.new w1 (.bool gnp1) (.slice Anp1 nnp1 cnp1) (.bool gdp1) (.slice Adp1 ndp1 cdp1) 75
  have b2 := (Below.refl w1.heap.size w1).alloc (Nat.le_refl _) (.cells #[.bool gnp1, .slice Anp1 nnp1 cnp1, .bool gdp1, .slice Adp1 ndp1 cdp1] 75)
  have hb2 := bp1.trans (b2.mono bp1.size)
  have R2 := R0.after hb2
  have B2 := B0.trans (hb2.mono B0.size)
  have Jn := ip1.below b2
  have Jd := jp1.below b2
  clear s0 s1 s2 s3 s4 Ixn Ixd Iyn Iyd R0 B0 hb2 b2 bp1 ip1 jp1
  have ⟨t0, t1, t2, t3, _⟩ := T2
  generalize hW : w1.alloc (.cells #[.bool gnp1, .slice Anp1 nnp1 cnp1, .bool gdp1, .slice Adp1 ndp1 cdp1] 75) = W2 at *
  go_wp2_with fail
  try rw [hW]
  clear hW
  rw [HZ.out] at Jd
  (with_reducible refine (qof_bad gnp1 Anp1 nnp1 cnp1 gdp1 Adp1 ndp1 cdp1 _ Jd).mono ?_)
  rintro e w3 ⟨rfl, bp2⟩
  have R3 := R2.after bp2
  have B3 := B2.trans (bp2.mono B2.size)
  clear t0 t1 t2 t3 T2 R2 B2 Jn Jd
  have ⟨r0, r1, r2, r3, k0, k1, k2, k3, _⟩ := R3
  go_wp2
  refine bodyPost_ret (v := .tuple #[.agg #[.bool false, .slice none 0 0, .bool false, .slice none 0 0], .int .i64 3]) (by obtain ⟨v0, v1, v2, v3⟩ := R3.set4e (.bool false) (.slice none 0 0) (.bool false) (.slice none 0 0); simp [results, Tryz.results68, go_sem, v0, v1, v2, v3]) rfl ⟨rfl, ?_⟩
  exact Below.set4 B3 (by omega) _ _ _ _
theorem IsRat.stored4' {w : World} {gn gd : Bool} {An Ad : Option Addr} {nn cn nd cd : Nat} {q : Rat} (h : IsRat w gn An nn cn gd Ad nd cd q) (w' : World) (hb : Below w.heap.size w w') : IsRat w' gn An nn cn gd Ad nd cd q := h.below hb
set_option maxRecDepth 1000000 in
set_option maxHeartbeats 4000000 in
theorem qadd_z (gxn : Bool) (Axn : Option Addr) (nxn cxn : Nat) (gxd : Bool) (Axd : Option Addr) (nxd cxd : Nat) (gyn : Bool) (Ayn : Option Addr) (nyn cyn : Nat) (gyd : Bool) (Ayd : Option Addr) (nyd cyd : Nat) {k l : Nat} {a b : Rat} (w : World)
    (ha : IsRat w gxn Axn nxn cxn gxd Axd nxd cxd a) (hb : IsRat w gyn Ayn nyn cyn gyd Ayd nyd cyd b) (sa : RSz k a) (sb : RSz l b) (hk : k + l + 1 + 1 ≤ 10000) :
    Calls Tryz.prog 19 #[.agg #[.bool gxn, .slice Axn nxn cxn, .bool gxd, .slice Axd nxd cxd], .agg #[.bool gyn, .slice Ayn nyn cyn, .bool gyd, .slice Ayd nyd cyd]] w (RetRat w (a + b)) := by
  have Q0 : Hid (∀ W, Below w.heap.size w W → Calls Tryz.prog 68 #[.agg #[.func (.func 72) #[.agg #[.bool gxn, .slice Axn nxn cxn, .bool gxd, .slice Axd nxd cxd]] #[], .bool gyn, .slice Ayn nyn cyn, .bool gyd, .slice Ayd nyd cyd]] W (RetRatE W (a + b) 0)) := fun W hW => by
    have := qres_plus_z gxn Axn nxn cxn gxd Axd nxd cxd gyn Ayn nyn cyn gyd Ayd nyd cyd W (ha.num.below hW) (ha.den.below hW) (hb.num.below hW) (hb.den.below hW) sa.num sa.den sb.num sb.den (by omega) (Int.mul_ne_zero (den_ne a) (den_ne b))
    rwa [q_add] at this
  obtain ⟨B0, X0, Y0, R0⟩ := frameQ3 w (.bool gxn) (.slice Axn nxn cxn) (.bool gxd) (.slice Axd nxd cxd) (.bool gyn) (.slice Ayn nyn cyn) (.bool gyd) (.slice Ayd nyd cyd) 28 28 28
  clear ha hb
  have ⟨x0, x1, x2, x3, _⟩ := X0
  have ⟨y0, y1, y2, y3, _⟩ := Y0
  have hmf := mf_run
  have HQ := Lib.hid (Q0.out _ B0)
  clear Q0
  go_enter Tryz.func19, Tryz.ntmps19
  generalize hW : ((w.alloc (.cells #[.bool gxn, .slice Axn nxn cxn, .bool gxd, .slice Axd nxd cxd] 28)).alloc (.cells #[.bool gyn, .slice Ayn nyn cyn, .bool gyd, .slice Ayd nyd cyd] 28)).alloc (.cells #[.bool false, .slice none 0 0, .bool false, .slice none 0 0] 28) = W0 at *
  go_wp2_with fail
  try rw [hW]
  clear hW
  (with_reducible refine HQ.out.mono ?_)
  rintro e w1 ⟨gnp1, Anp1, nnp1, cnp1, gdp1, Adp1, ndp1, cdp1, rfl, ip1, bp1⟩
  have T2 := Slot4.new w1 (.bool gnp1) (.slice Anp1 nnp1 cnp1) (.bool gdp1) (.slice Adp1 ndp1 cdp1) 28
  have b2 := (Below.refl w1.heap.size w1).alloc (Nat.le_refl _) (.cells #[.bool gnp1, .slice Anp1 nnp1 cnp1, .bool gdp1, .slice Adp1 ndp1 cdp1] 28)
  have hb2 := bp1.trans (b2.mono bp1.size)
  have R2 := R0.after hb2
  have B2 := B0.trans (hb2.mono B0.size)
  have Jr := ip1.below b2
  clear x0 x1 x2 x3 y0 y1 y2 y3 X0 Y0 R0 B0 HQ hb2 b2 bp1 ip1
  have ⟨t0, t1, t2, t3, _⟩ := T2
  have ⟨r0, r1, r2, r3, k0, k1, k2, k3, _⟩ := R2
  generalize hW : w1.alloc (.cells #[.bool gnp1, .slice Anp1 nnp1 cnp1, .bool gdp1, .slice Adp1 ndp1 cdp1] 28) = W2 at *
  go_wp2
  try rw [hW]
  clear hW
  refine bodyPost_ret (v := .agg #[.bool gnp1, .slice Anp1 nnp1 cnp1, .bool gdp1, .slice Adp1 ndp1 cdp1]) (by obtain ⟨v0, v1, v2, v3⟩ := R2.set4e (.bool gnp1) (.slice Anp1 nnp1 cnp1) (.bool gdp1) (.slice Adp1 ndp1 cdp1); simp [results, Tryz.results19, go_sem, v0, v1, v2, v3]) rfl ⟨_, _, _, _, _, _, _, _, rfl, Jr.stored4 R2 rfl rfl rfl rfl _ _ _ _, ?_⟩
  exact Below.set4 B2 (by omega) _ _ _ _
set_option maxRecDepth 1000000 in
set_option maxHeartbeats 4000000 in
theorem qsub_z (gxn : Bool) (Axn : Option Addr) (nxn cxn : Nat) (gxd : Bool) (Axd : Option Addr) (nxd cxd : Nat) (gyn : Bool) (Ayn : Option Addr) (nyn cyn : Nat) (gyd : Bool) (Ayd : Option Addr) (nyd cyd : Nat) {k l : Nat} {a b : Rat} (w : World)
    (ha : IsRat w gxn Axn nxn cxn gxd Axd nxd cxd a) (hb : IsRat w gyn Ayn nyn cyn gyd Ayd nyd cyd b) (sa : RSz k a) (sb : RSz l b) (hk : k + l + 1 + 1 ≤ 10000) :
    Calls Tryz.prog 21 #[.agg #[.bool gxn, .slice Axn nxn cxn, .bool gxd, .slice Axd nxd cxd], .agg #[.bool gyn, .slice Ayn nyn cyn, .bool gyd, .slice Ayd nyd cyd]] w (RetRat w (a - b)) := by
  have Q0 : Hid (∀ W, Below w.heap.size w W → Calls Tryz.prog 68 #[.agg #[.func (.func 74) #[.agg #[.bool gxn, .slice Axn nxn cxn, .bool gxd, .slice Axd nxd cxd]] #[], .bool gyn, .slice Ayn nyn cyn, .bool gyd, .slice Ayd nyd cyd]] W (RetRatE W (a - b) 0)) := fun W hW => by
    have := qres_minus_z gxn Axn nxn cxn gxd Axd nxd cxd gyn Ayn nyn cyn gyd Ayd nyd cyd W (ha.num.below hW) (ha.den.below hW) (hb.num.below hW) (hb.den.below hW) sa.num sa.den sb.num sb.den (by omega) (Int.mul_ne_zero (den_ne a) (den_ne b))
    rwa [q_sub] at this
  obtain ⟨B0, X0, Y0, R0⟩ := frameQ3 w (.bool gxn) (.slice Axn nxn cxn) (.bool gxd) (.slice Axd nxd cxd) (.bool gyn) (.slice Ayn nyn cyn) (.bool gyd) (.slice Ayd nyd cyd) 28 28 28
  clear ha hb
  have ⟨x0, x1, x2, x3, _⟩ := X0
  have ⟨y0, y1, y2, y3, _⟩ := Y0
  have hmf := mf_run
  have HQ := Lib.hid (Q0.out _ B0)
  clear Q0
  go_enter Tryz.func21, Tryz.ntmps21
  generalize hW : ((w.alloc (.cells #[.bool gxn, .slice Axn nxn cxn, .bool gxd, .slice Axd nxd cxd] 28)).alloc (.cells #[.bool gyn, .slice Ayn nyn cyn, .bool gyd, .slice Ayd nyd cyd] 28)).alloc (.cells #[.bool false, .slice none 0 0, .bool false, .slice none 0 0] 28) = W0 at *
  go_wp2_with fail
  try rw [hW]
  clear hW
  (with_reducible refine HQ.out.mono ?_)
  rintro e w1 ⟨gnp1, Anp1, nnp1, cnp1, gdp1, Adp1, ndp1, cdp1, rfl, ip1, bp1⟩
  have T2 := Slot4.new w1 (.bool gnp1) (.slice Anp1 nnp1 cnp1) (.bool gdp1) (.slice Adp1 ndp1 cdp1) 28
  have b2 := (Below.refl w1.heap.size w1).alloc (Nat.le_refl _) (.cells #[.bool gnp1, .slice Anp1 nnp1 cnp1, .bool gdp1, .slice Adp1 ndp1 cdp1] 28)
  have hb2 := bp1.trans (b2.mono bp1.size)
  have R2 := R0.after hb2
  have B2 := B0.trans (hb2.mono B0.size)
  have Jr := ip1.below b2
  clear x0 x1 x2 x3 y0 y1 y2 y3 X0 Y0 R0 B0 HQ hb2 b2 bp1 ip1
  have ⟨t0, t1, t2, t3, _⟩ := T2
  have ⟨r0, r1, r2, r3, k0, k1, k2, k3, _⟩ := R2
  generalize hW : w1.alloc (.cells #[.bool gnp1, .slice Anp1 nnp1 cnp1, .bool gdp1, .slice Adp1 ndp1 cdp1] 28) = W2 at *
  go_wp2
  try rw [hW]
  clear hW
  refine bodyPost_ret (v := .agg #[.bool gnp1, .slice Anp1 nnp1 cnp1, .bool gdp1, .slice Adp1 ndp1 cdp1]) (by obtain ⟨v0, v1, v2, v3⟩ := R2.set4e (.bool gnp1) (.slice Anp1 nnp1 cnp1) (.bool gdp1) (.slice Adp1 ndp1 cdp1); simp [results, Tryz.results21, go_sem, v0, v1, v2, v3]) rfl ⟨_, _, _, _, _, _, _, _, rfl, Jr.stored4 R2 rfl rfl rfl rfl _ _ _ _, ?_⟩
  exact Below.set4 B2 (by omega) _ _ _ _
set_option maxRecDepth 1000000 in
set_option maxHeartbeats 4000000 in
theorem qmul_z (gxn : Bool) (Axn : Option Addr) (nxn cxn : Nat) (gxd : Bool) (Axd : Option Addr) (nxd cxd : Nat) (gyn : Bool) (Ayn : Option Addr) (nyn cyn : Nat) (gyd : Bool) (Ayd : Option Addr) (nyd cyd : Nat) {k l : Nat} {a b : Rat} (w : World)
    (ha : IsRat w gxn Axn nxn cxn gxd Axd nxd cxd a) (hb : IsRat w gyn Ayn nyn cyn gyd Ayd nyd cyd b) (sa : RSz k a) (sb : RSz l b) (hk : k + l + 1 ≤ 10000) :
    Calls Tryz.prog 23 #[.agg #[.bool gxn, .slice Axn nxn cxn, .bool gxd, .slice Axd nxd cxd], .agg #[.bool gyn, .slice Ayn nyn cyn, .bool gyd, .slice Ayd nyd cyd]] w (RetRat w (a * b)) := by
  have Q0 : Hid (∀ W, Below w.heap.size w W → Calls Tryz.prog 68 #[.agg #[.func (.func 75) #[.agg #[.bool gxn, .slice Axn nxn cxn, .bool gxd, .slice Axd nxd cxd]] #[], .bool gyn, .slice Ayn nyn cyn, .bool gyd, .slice Ayd nyd cyd]] W (RetRatE W (a * b) 0)) := fun W hW => by
    have := qres_times_z gxn Axn nxn cxn gxd Axd nxd cxd gyn Ayn nyn cyn gyd Ayd nyd cyd W (ha.num.below hW) (ha.den.below hW) (hb.num.below hW) (hb.den.below hW) sa.num sa.den sb.num sb.den (by omega) (Int.mul_ne_zero (den_ne a) (den_ne b))
    rwa [q_mul] at this
  obtain ⟨B0, X0, Y0, R0⟩ := frameQ3 w (.bool gxn) (.slice Axn nxn cxn) (.bool gxd) (.slice Axd nxd cxd) (.bool gyn) (.slice Ayn nyn cyn) (.bool gyd) (.slice Ayd nyd cyd) 28 28 28
  clear ha hb
  have ⟨x0, x1, x2, x3, _⟩ := X0
  have ⟨y0, y1, y2, y3, _⟩ := Y0
  have hmf := mf_run
  have HQ := Lib.hid (Q0.out _ B0)
  clear Q0
  go_enter Tryz.func23, Tryz.ntmps23
  generalize hW : ((w.alloc (.cells #[.bool gxn, .slice Axn nxn cxn, .bool gxd, .slice Axd nxd cxd] 28)).alloc (.cells #[.bool gyn, .slice Ayn nyn cyn, .bool gyd, .slice Ayd nyd cyd] 28)).alloc (.cells #[.bool false, .slice none 0 0, .bool false, .slice none 0 0] 28) = W0 at *
  go_wp2_with fail
  try rw [hW]
  clear hW
  (with_reducible refine HQ.out.mono ?_)
  rintro e w1 ⟨gnp1, Anp1, nnp1, cnp1, gdp1, Adp1, ndp1, cdp1, rfl, ip1, bp1⟩
  have T2 := Slot4.new w1 (.bool gnp1) (.slice Anp1 nnp1 cnp1) (.bool gdp1) (.slice Adp1 ndp1 cdp1) 28
  have b2 := (Below.refl w1.heap.size w1).alloc (Nat.le_refl _) (.cells #[.bool gnp1, .slice Anp1 nnp1 cnp1, .bool gdp1, .slice Adp1 ndp1 cdp1] 28)
  have hb2 := bp1.trans (b2.mono bp1.size)
  have R2 := R0.after hb2
  have B2 := B0.trans (hb2.mono B0.size)
  have Jr := ip1.below b2
  clear x0 x1 x2 x3 y0 y1 y2 y3 X0 Y0 R0 B0 HQ hb2 b2 bp1 ip1
  have ⟨t0, t1, t2, t3, _⟩ := T2
  have ⟨r0, r1, r2, r3, k0, k1, k2, k3, _⟩ := R2
  generalize hW : w1.alloc (.cells #[.bool gnp1, .slice Anp1 nnp1 cnp1, .bool gdp1, .slice Adp1 ndp1 cdp1] 28) = W2 at *
  go_wp2
  try rw [hW]
  clear hW
  refine bodyPost_ret (v := .agg #[.bool gnp1, .slice Anp1 nnp1 cnp1, .bool gdp1, .slice Adp1 ndp1 cdp1]) (by obtain ⟨v0, v1, v2, v3⟩ := R2.set4e (.bool gnp1) (.slice Anp1 nnp1 cnp1) (.bool gdp1) (.slice Adp1 ndp1 cdp1); simp [results, Tryz.results23, go_sem, v0, v1, v2, v3]) rfl ⟨_, _, _, _, _, _, _, _, rfl, Jr.stored4 R2 rfl rfl rfl rfl _ _ _ _, ?_⟩
  exact Below.set4 B2 (by omega) _ _ _ _
set_option maxRecDepth 1000000 in
set_option maxHeartbeats 4000000 in
theorem qdiv_z (gxn : Bool) (Axn : Option Addr) (nxn cxn : Nat) (gxd : Bool) (Axd : Option Addr) (nxd cxd : Nat) (gyn : Bool) (Ayn : Option Addr) (nyn cyn : Nat) (gyd : Bool) (Ayd : Option Addr) (nyd cyd : Nat) {k l : Nat} {a b : Rat} (w : World)
    (ha : IsRat w gxn Axn nxn cxn gxd Axd nxd cxd a) (hb : IsRat w gyn Ayn nyn cyn gyd Ayd nyd cyd b) (sa : RSz k a) (sb : RSz l b) (hk : k + l + 1 ≤ 10000) (hz : b ≠ 0) :
    Calls Tryz.prog 14 #[.agg #[.bool gxn, .slice Axn nxn cxn, .bool gxd, .slice Axd nxd cxd], .agg #[.bool gyn, .slice Ayn nyn cyn, .bool gyd, .slice Ayd nyd cyd]] w (RetRatE w (a / b) 0) := by
  have Q0 : Hid (∀ W, Below w.heap.size w W → Calls Tryz.prog 68 #[.agg #[.func (.func 67) #[.agg #[.bool gxn, .slice Axn nxn cxn, .bool gxd, .slice Axd nxd cxd]] #[], .bool gyn, .slice Ayn nyn cyn, .bool gyd, .slice Ayd nyd cyd]] W (RetRatE W (a / b) 0)) := fun W hW => by
    have := qres_over_z gxn Axn nxn cxn gxd Axd nxd cxd gyn Ayn nyn cyn gyd Ayd nyd cyd W (ha.num.below hW) (ha.den.below hW) (hb.num.below hW) (hb.den.below hW) sa.num sa.den sb.num sb.den (by omega) (Int.mul_ne_zero (den_ne a) (num_ne hz))
    rwa [q_div] at this
  obtain ⟨B0, X0, Y0, R0⟩ := frameQ3 w (.bool gxn) (.slice Axn nxn cxn) (.bool gxd) (.slice Axd nxd cxd) (.bool gyn) (.slice Ayn nyn cyn) (.bool gyd) (.slice Ayd nyd cyd) 28 28 28
  clear ha hb
  have ⟨x0, x1, x2, x3, _⟩ := X0
  have ⟨y0, y1, y2, y3, _⟩ := Y0
  have hmf := mf_run
  have HQ := Lib.hid (Q0.out _ B0)
  clear Q0
  go_enter Tryz.func14, Tryz.ntmps14
  generalize hW : ((w.alloc (.cells #[.bool gxn, .slice Axn nxn cxn, .bool gxd, .slice Axd nxd cxd] 28)).alloc (.cells #[.bool gyn, .slice Ayn nyn cyn, .bool gyd, .slice Ayd nyd cyd] 28)).alloc (.cells #[.bool false, .slice none 0 0, .bool false, .slice none 0 0] 28) = W0 at *
  go_wp2_with fail
  try rw [hW]
  clear hW
  (with_reducible refine HQ.out.mono ?_)
  rintro e w1 ⟨gnp1, Anp1, nnp1, cnp1, gdp1, Adp1, ndp1, cdp1, rfl, ip1, bp1⟩
  have R1 := R0.after bp1
  have B1 := B0.trans (bp1.mono B0.size)
  clear x0 x1 x2 x3 y0 y1 y2 y3 X0 Y0 R0 B0 HQ
  have ⟨r0, r1, r2, r3, k0, k1, k2, k3, _⟩ := R1
  go_wp2
  refine bodyPost_ret (v := .tuple #[.agg #[.bool gnp1, .slice Anp1 nnp1 cnp1, .bool gdp1, .slice Adp1 ndp1 cdp1], .int .i64 0]) (by obtain ⟨v0, v1, v2, v3⟩ := R1.set4e (.bool gnp1) (.slice Anp1 nnp1 cnp1) (.bool gdp1) (.slice Adp1 ndp1 cdp1); simp [results, Tryz.results14, go_sem, v0, v1, v2, v3]) rfl ⟨_, _, _, _, _, _, _, _, rfl, ip1.stored4 R1 rfl rfl rfl rfl _ _ _ _, ?_⟩
  exact Below.set4 B1 (by omega) _ _ _ _
set_option maxRecDepth 1000000 in
set_option maxHeartbeats 4000000 in
theorem qdiv_bad (gxn : Bool) (Axn : Option Addr) (nxn cxn : Nat) (gxd : Bool) (Axd : Option Addr) (nxd cxd : Nat) (gyn : Bool) (Ayn : Option Addr) (nyn cyn : Nat) (gyd : Bool) (Ayd : Option Addr) (nyd cyd : Nat) {k l : Nat} {a b : Rat} (w : World)
    (ha : IsRat w gxn Axn nxn cxn gxd Axd nxd cxd a) (hb : IsRat w gyn Ayn nyn cyn gyd Ayd nyd cyd b) (sa : RSz k a) (sb : RSz l b) (hk : k + l + 1 ≤ 10000) (hz : b = 0) :
    Calls Tryz.prog 14 #[.agg #[.bool gxn, .slice Axn nxn cxn, .bool gxd, .slice Axd nxd cxd], .agg #[.bool gyn, .slice Ayn nyn cyn, .bool gyd, .slice Ayd nyd cyd]] w (fun e w' => e = .returned (.tuple #[.agg #[.bool false, .slice none 0 0, .bool false, .slice none 0 0], .int .i64 3]) ∧ Below w.heap.size w w') := by
  have Q0 : Hid (∀ W, Below w.heap.size w W → Calls Tryz.prog 68 #[.agg #[.func (.func 67) #[.agg #[.bool gxn, .slice Axn nxn cxn, .bool gxd, .slice Axd nxd cxd]] #[], .bool gyn, .slice Ayn nyn cyn, .bool gyd, .slice Ayd nyd cyd]] W (fun e w' => e = .returned (.tuple #[.agg #[.bool false, .slice none 0 0, .bool false, .slice none 0 0], .int .i64 3]) ∧ Below W.heap.size W w')) := fun W hW => by
    exact qres_over_bad gxn Axn nxn cxn gxd Axd nxd cxd gyn Ayn nyn cyn gyd Ayd nyd cyd W (ha.num.below hW) (ha.den.below hW) (hb.num.below hW) (hb.den.below hW) sa.num sa.den sb.num sb.den (by omega) (by rw [hz]; simp)
  obtain ⟨B0, X0, Y0, R0⟩ := frameQ3 w (.bool gxn) (.slice Axn nxn cxn) (.bool gxd) (.slice Axd nxd cxd) (.bool gyn) (.slice Ayn nyn cyn) (.bool gyd) (.slice Ayd nyd cyd) 28 28 28
  clear ha hb
  have ⟨x0, x1, x2, x3, _⟩ := X0
  have ⟨y0, y1, y2, y3, _⟩ := Y0
  have hmf := mf_run
  have HQ := Lib.hid (Q0.out _ B0)
  clear Q0
  go_enter Tryz.func14, Tryz.ntmps14
  generalize hW : ((w.alloc (.cells #[.bool gxn, .slice Axn nxn cxn, .bool gxd, .slice Axd nxd cxd] 28)).alloc (.cells #[.bool gyn, .slice Ayn nyn cyn, .bool gyd, .slice Ayd nyd cyd] 28)).alloc (.cells #[.bool false, .slice none 0 0, .bool false, .slice none 0 0] 28) = W0 at *
  go_wp2_with fail
  try rw [hW]
  clear hW
  (with_reducible refine HQ.out.mono ?_)
  rintro e w1 ⟨rfl, bp1⟩
  have R1 := R0.after bp1
  have B1 := B0.trans (bp1.mono B0.size)
  clear x0 x1 x2 x3 y0 y1 y2 y3 X0 Y0 R0 B0 HQ
  have ⟨r0, r1, r2, r3, k0, k1, k2, k3, _⟩ := R1
  go_wp2
  refine bodyPost_ret (v := .tuple #[.agg #[.bool false, .slice none 0 0, .bool false, .slice none 0 0], .int .i64 3]) (by obtain ⟨v0, v1, v2, v3⟩ := R1.set4e (.bool false) (.slice none 0 0) (.bool false) (.slice none 0 0); simp [results, Tryz.results14, go_sem, v0, v1, v2, v3]) rfl ⟨rfl, ?_⟩
  exact Below.set4 B1 (by omega) _ _ _ _
end Go.Proofs.YtlpoboikompjfaaGreatDoor
namespace Go.Proofs.YtlpoboikompjfaaGreatDoor
open Go.RowKit
set_option maxHeartbeats 1000000 in
theorem qsign_z (gn : Bool) (An : Option Addr) (nn cn : Nat) (gd : Bool) (Ad : Option Addr) (nd cd : Nat) {n : Int} (s : Int) (w : World) (hn : IsInt w gn An nn cn n) (h : sgn n = s) :
    Calls Tryz.prog 38 #[.agg #[.bool gn, .slice An nn cn, .bool gd, .slice Ad nd cd]] w fun e w' => e = .returned (.int .i64 s) ∧ Below w.heap.size w w' := by
  have B0 := (Below.refl w.heap.size w).alloc (Nat.le_refl _) (.cells #[.bool gn, .slice An nn cn, .bool gd, .slice Ad nd cd] 28)
  have R0 := Slot4.new w (.bool gn) (.slice An nn cn) (.bool gd) (.slice Ad nd cd) 28
  have In := hn.below B0
  have ⟨r0, r1, r2, r3, _⟩ := R0
  go_enter Tryz.func38, Tryz.ntmps38
  go_wp2_with fail
  (with_reducible refine (sign_z gn An nn cn _ s In h).mono ?_)
  rintro e w1 ⟨rfl, hb1⟩
  go_wp2
  go_ret
  exact ⟨rfl, B0.trans (hb1.mono B0.size)⟩
set_option maxHeartbeats 1000000 in
theorem qfl_z (gn : Bool) (An : Option Addr) (nn cn : Nat) (gd : Bool) (Ad : Option Addr) (nd cd : Nat) {k l : Nat} {n d : Int} (w : World) (hn : IsInt w gn An nn cn n) (hd : IsInt w gd Ad nd cd d) (sn : Sz k n) (sd : Sz l d) (h0 : d ≠ 0) :
    Calls Tryz.prog 79 #[.agg #[.bool gn, .slice An nn cn, .bool gd, .slice Ad nd cd]] w (RetInt w (n / d)) := by
  have b0 := (Below.refl w.heap.size w).alloc (Nat.le_refl _) (.cells #[.bool gn, .slice An nn cn, .bool gd, .slice Ad nd cd] 75)
  have B0 := b0.alloc b0.size (.cells #[.bool false, .slice none 0 0] 26)
  have R0 := (Slot4.new w (.bool gn) (.slice An nn cn) (.bool gd) (.slice Ad nd cd) 75).alloc (.cells #[.bool false, .slice none 0 0] 26)
  have Q0 := Slot2.new (w.alloc (.cells #[.bool gn, .slice An nn cn, .bool gd, .slice Ad nd cd] 75)) (.bool false) (.slice none 0 0) 26
  simp only [World.size_alloc] at Q0
  have In := hn.below B0
  have Id := hd.below B0
  have ⟨r0, r1, r2, r3, _⟩ := R0
  go_enter Tryz.func79, Tryz.ntmps79
  go_wp2_with fail
  (with_reducible refine (dm_z gn gd An Ad nn cn nd cd _ In Id sn sd h0).mono ?_)
  rintro e w1 ⟨g5, A5, n5, c5, g6, A6, n6, c6, rfl, hi5, hi6, hb1⟩
  have b7 := (Below.refl w1.heap.size w1).alloc (Nat.le_refl _) (.cells #[.bool g5, .slice A5 n5 c5] 26)
  have b8 := b7.alloc b7.size (.cells #[.bool g6, .slice A6 n6 c6] 26)
  have hb8 := hb1.trans (b8.mono hb1.size)
  have X8 := (Slot2.new w1 (.bool g5) (.slice A5 n5 c5) 26).alloc (.cells #[.bool g6, .slice A6 n6 c6] 26)
  have Jx8 := hi5.below b8
  have Q8 := Q0.after hb8
  have B8 := B0.trans (hb8.mono B0.size)
  clear r0 r1 r2 r3 b0 b7 b8 hb1 hb8 hi5 hi6 R0 Q0 B0 In Id
  have ⟨x0, x1, _, _, _⟩ := X8
  have ⟨q0, q1, _, _, _⟩ := Q8
  go_wp2
  exact bodyPost_ret (v := .agg #[.bool g5, .slice A5 n5 c5]) (by simp [results, Tryz.results79, go_sem, q0, q1]) rfl ⟨_, _, _, _, rfl, Jx8.stored q0 q1 rfl rfl _ _, (B8.setCell (by simp) _).setCell (by simp) _⟩
set_option maxHeartbeats 1000000 in
theorem qfloor_z (gn : Bool) (An : Option Addr) (nn cn : Nat) (gd : Bool) (Ad : Option Addr) (nd cd : Nat) {k l : Nat} {q : Rat} (w : World) (hq : IsRat w gn An nn cn gd Ad nd cd q) (sn : Sz k q.num) (sd : Sz l (q.den : Int)) :
    Calls Tryz.prog 30 #[.agg #[.bool gn, .slice An nn cn, .bool gd, .slice Ad nd cd]] w (RetInt w q.floor) := by
  have h0 : (q.den : Int) ≠ 0 := by have := q.den_pos; omega
  have hf : q.floor = q.num / q.den := Rat.floor_def q
  have b0 := (Below.refl w.heap.size w).alloc (Nat.le_refl _) (.cells #[.bool gn, .slice An nn cn, .bool gd, .slice Ad nd cd] 28)
  have B0 := b0.alloc b0.size (.cells #[.bool false, .slice none 0 0] 26)
  have R0 := (Slot4.new w (.bool gn) (.slice An nn cn) (.bool gd) (.slice Ad nd cd) 28).alloc (.cells #[.bool false, .slice none 0 0] 26)
  have Q0 := Slot2.new (w.alloc (.cells #[.bool gn, .slice An nn cn, .bool gd, .slice Ad nd cd] 28)) (.bool false) (.slice none 0 0) 26
  simp only [World.size_alloc] at Q0
  have In := hq.num.below B0
  have Id := hq.den.below B0
  rw [hf]
  clear hf hq b0
  have ⟨r0, r1, r2, r3, _⟩ := R0
  go_enter Tryz.func30, Tryz.ntmps30
  go_wp2_with fail
  (with_reducible refine (qfl_z gn An nn cn gd Ad nd cd _ In Id sn sd h0).mono ?_)
  rintro e w1 ⟨g5, A5, n5, c5, rfl, hi5, hb1⟩
  have Q1 := Q0.after hb1
  have B1 := B0.trans (hb1.mono B0.size)
  clear r0 r1 r2 r3 R0 Q0 B0 In Id hb1
  have ⟨q0, q1, _, _, _⟩ := Q1
  go_wp2
  exact bodyPost_ret (v := .agg #[.bool g5, .slice A5 n5 c5]) (by simp [results, Tryz.results30, go_sem, q0, q1]) rfl ⟨_, _, _, _, rfl, hi5.stored q0 q1 rfl rfl _ _, (B1.setCell (by simp) _).setCell (by simp) _⟩
end Go.Proofs.YtlpoboikompjfaaGreatDoor
namespace Go.Proofs.YtlpoboikompjfaaGreatDoor
open Go.RowKit
/-- The struct at block g holds the fraction q. -/
def RatAt (w : World) (g : Nat) (q : Rat) : Prop := ∃ gn An nn cn gd Ad nd cd, Slot4 w g (.bool gn) (.slice An nn cn) (.bool gd) (.slice Ad nd cd) ∧ IsRat w gn An nn cn gd Ad nd cd q
theorem RatAt.after {w w' : World} {g : Nat} {q : Rat} (h : RatAt w g q) (hb : Below w.heap.size w w') : RatAt w' g q := by
  obtain ⟨a, b, c, d, a', b', c', d', h1, h2⟩ := h
  exact ⟨a, b, c, d, a', b', c', d', h1.after hb, h2.below hb⟩
theorem RatAt.new {w : World} {gn gd : Bool} {An Ad : Option Addr} {nn cn nd cd : Nat} {q : Rat} (h : IsRat w gn An nn cn gd Ad nd cd q) : RatAt (w.alloc (.cells #[.bool gn, .slice An nn cn, .bool gd, .slice Ad nd cd] 28)) w.heap.size q :=
  ⟨gn, An, nn, cn, gd, Ad, nd, cd, Slot4.new w _ _ _ _ _, h.below ((Below.refl _ _).alloc (Nat.le_refl _) _)⟩
/-- The value v is the fraction q. -/
def RatV (w : World) (v : Value) (q : Rat) : Prop := ∃ gn An nn cn gd Ad nd cd, v = .agg #[.bool gn, .slice An nn cn, .bool gd, .slice Ad nd cd] ∧ IsRat w gn An nn cn gd Ad nd cd q
theorem RatV.below {w w' : World} {v : Value} {q : Rat} (h : RatV w v q) (hb : Below w.heap.size w w') : RatV w' v q := by
  obtain ⟨a, b, c, d, a', b', c', d', e, hi⟩ := h
  exact ⟨a, b, c, d, a', b', c', d', e, hi.below hb⟩
/-- A tuple of a fraction and a code. -/
def TupQ (w : World) (v : Value) (q : Rat) (e : Int) : Prop := ∃ v1, v = .tuple #[v1, .int .i64 e] ∧ RatV w v1 q
theorem TupQ.below {w w' : World} {v : Value} {q : Rat} {e : Int} (h : TupQ w v q e) (hb : Below w.heap.size w w') : TupQ w' v q e := by
  obtain ⟨v1, e1, h1⟩ := h
  exact ⟨v1, e1, h1.below hb⟩
section
variable {w : World} {g : Nat} {a0 a1 a2 a3 : Value} (hs : Slot4 w g a0 a1 a2 a3) (n0 : noLimb a0 = true) (n1 : noLimb a1 = true) (n2 : noLimb a2 = true) (n3 : noLimb a3 = true) (u0 u1 u2 u3 : Value)
include hs n0 n1 n2 n3
theorem IntV.set4 {v : Value} {z : Int} (h : IntV w v z) : IntV ((((w.setCell ⟨g, 0, none⟩ u0).setCell ⟨g, 1, none⟩ u1).setCell ⟨g, 2, none⟩ u2).setCell ⟨g, 3, none⟩ u3) v z := by
  obtain ⟨neg, A, n, c, e, hi⟩ := h
  exact ⟨neg, A, n, c, e, hi.stored4 hs n0 n1 n2 n3 _ _ _ _⟩
theorem RatV.set4 {v : Value} {q : Rat} (h : RatV w v q) : RatV ((((w.setCell ⟨g, 0, none⟩ u0).setCell ⟨g, 1, none⟩ u1).setCell ⟨g, 2, none⟩ u2).setCell ⟨g, 3, none⟩ u3) v q := by
  obtain ⟨a, b, c, d, a', b', c', d', e, hi⟩ := h
  exact ⟨a, b, c, d, a', b', c', d', e, hi.stored4 hs n0 n1 n2 n3 _ _ _ _⟩
theorem TupQ.set4 {v : Value} {q : Rat} {e : Int} (h : TupQ w v q e) : TupQ ((((w.setCell ⟨g, 0, none⟩ u0).setCell ⟨g, 1, none⟩ u1).setCell ⟨g, 2, none⟩ u2).setCell ⟨g, 3, none⟩ u3) v q e := by
  obtain ⟨v1, e1, h1⟩ := h
  exact ⟨v1, e1, h1.set4 hs n0 n1 n2 n3 _ _ _ _⟩
end
/-- The pointer v points to a struct of four cells of the call's own, made since B: not yet written, or holding the fraction q. -/
def OwnQ (B : Nat) (w : World) (v : Value) (st : Bool) (q : Rat) : Prop := ∃ g, v = .pointer (some ⟨g, 0, none⟩) ∧ B ≤ g ∧ ∃ a0 a1 a2 a3, Slot4 w g a0 a1 a2 a3 ∧ noLimb a0 = true ∧ noLimb a1 = true ∧ noLimb a2 = true ∧ noLimb a3 = true ∧ (st = true → RatV w (.agg #[a0, a1, a2, a3]) q)
theorem OwnQ.below {B : Nat} {w w' : World} {v : Value} {st : Bool} {q : Rat} (h : OwnQ B w v st q) (hb : Below w.heap.size w w') : OwnQ B w' v st q := by
  obtain ⟨g, e, hg, a0, a1, a2, a3, hs, n0, n1, n2, n3, hi⟩ := h
  exact ⟨g, e, hg, a0, a1, a2, a3, hs.after hb, n0, n1, n2, n3, fun h => (hi h).below hb⟩
theorem OwnQ.new {B : Nat} {w : World} (hB : B ≤ w.heap.size) (q : Rat) : OwnQ B (w.alloc (.cells #[.bool false, .slice none 0 0, .bool false, .slice none 0 0] 28)) (.pointer (some ⟨w.heap.size, 0, none⟩)) false q :=
  ⟨_, rfl, hB, _, _, _, _, Slot4.new w _ _ _ _ _, rfl, rfl, rfl, rfl, fun h => by cases h⟩
theorem OwnQ.far {B : Nat} {w : World} {v : Value} {st : Bool} {q : Rat} (h : OwnQ B w v st q) {g : Nat} (hne : v ≠ .pointer (some ⟨g, 0, none⟩)) {a0 a1 a2 a3 : Value} (hs : Slot4 w g a0 a1 a2 a3) (n0 : noLimb a0 = true) (n1 : noLimb a1 = true) (n2 : noLimb a2 = true) (n3 : noLimb a3 = true) (u0 u1 u2 u3 : Value) :
    OwnQ B ((((w.setCell ⟨g, 0, none⟩ u0).setCell ⟨g, 1, none⟩ u1).setCell ⟨g, 2, none⟩ u2).setCell ⟨g, 3, none⟩ u3) v st q := by
  obtain ⟨g', e, hg, b0, b1, b2, b3, hs', m0, m1, m2, m3, hi⟩ := h
  have hgg : g' ≠ g := fun h => hne (by rw [e, h])
  exact ⟨g', e, hg, b0, b1, b2, b3, hs'.far4 hgg _ _ _ _, m0, m1, m2, m3, fun h => (hi h).set4 hs n0 n1 n2 n3 _ _ _ _⟩
theorem OwnQ.near {B : Nat} {w : World} {g : Nat} {q : Rat} {gn gd : Bool} {An Ad : Option Addr} {nn cn nd cd : Nat} (hi : IsRat w gn An nn cn gd Ad nd cd q) (hg : B ≤ g) {a0 a1 a2 a3 : Value} (hs : Slot4 w g a0 a1 a2 a3) (n0 : noLimb a0 = true) (n1 : noLimb a1 = true) (n2 : noLimb a2 = true) (n3 : noLimb a3 = true) :
    OwnQ B ((((w.setCell ⟨g, 0, none⟩ (.bool gn)).setCell ⟨g, 1, none⟩ (.slice An nn cn)).setCell ⟨g, 2, none⟩ (.bool gd)).setCell ⟨g, 3, none⟩ (.slice Ad nd cd)) (.pointer (some ⟨g, 0, none⟩)) true q :=
  ⟨g, rfl, hg, _, _, _, _, hs.near4 _ _ _ _, rfl, rfl, rfl, rfl, fun _ => ⟨gn, An, nn, cn, gd, Ad, nd, cd, rfl, hi.stored4 hs n0 n1 n2 n3 _ _ _ _⟩⟩
theorem OwnQ.ratAtB {B : Nat} {w : World} {v : Value} {q : Rat} (h : OwnQ B w v true q) : ∃ g, v = .pointer (some ⟨g, 0, none⟩) ∧ RatAt w g q ∧ B ≤ g := by
  obtain ⟨g, e, hB, a0, a1, a2, a3, hs, _, _, _, _, hi⟩ := h
  obtain ⟨gn, An, nn, cn, gd, Ad, nd, cd, e2, hz⟩ := hi rfl
  have e3 : a0 = .bool gn ∧ a1 = .slice An nn cn ∧ a2 = .bool gd ∧ a3 = .slice Ad nd cd := by simpa using e2
  rw [e3.1, e3.2.1, e3.2.2.1, e3.2.2.2] at hs
  exact ⟨g, e, ⟨gn, An, nn, cn, gd, Ad, nd, cd, hs, hz⟩, hB⟩
theorem OwnQ.lt {B : Nat} {w : World} {v : Value} {st : Bool} {q : Rat} (h : OwnQ B w v st q) : v ≠ .pointer (some ⟨w.heap.size, 0, none⟩) := by
  obtain ⟨g, e, _, a0, a1, a2, a3, hs, _⟩ := h
  have := hs.2.2.2.2.2.2.2.2
  rw [e]
  intro h
  have e := congrArg (fun v => match v with | .pointer (some a) => a.block | _ => 0) h
  have e2 : g = w.heap.size := e
  omega
theorem RatAt.far4 {w : World} {g g' : Nat} {q : Rat} (h : RatAt w g q) (hne : g ≠ g') {a0 a1 a2 a3 : Value} (hs : Slot4 w g' a0 a1 a2 a3) (n0 : noLimb a0 = true) (n1 : noLimb a1 = true) (n2 : noLimb a2 = true) (n3 : noLimb a3 = true) (u0 u1 u2 u3 : Value) : RatAt ((((w.setCell ⟨g', 0, none⟩ u0).setCell ⟨g', 1, none⟩ u1).setCell ⟨g', 2, none⟩ u2).setCell ⟨g', 3, none⟩ u3) g q := by
  obtain ⟨a, b, c, d, a', b', c', d', h1, h2⟩ := h
  exact ⟨a, b, c, d, a', b', c', d', h1.far4 hne _ _ _ _, h2.stored4 hs n0 n1 n2 n3 _ _ _ _⟩
end Go.Proofs.YtlpoboikompjfaaGreatDoor
namespace Go.Proofs.YtlpoboikompjfaaGreatDoor
open Go.RowKit
theorem dec_lt' (s : ByteArray) : ∀ k, k ≤ s.size → (∀ j (h : j < s.size), j < k → 48 ≤ s[j].toNat ∧ s[j].toNat ≤ 57) → dec (s.toList.take k) < 10 ^ k
  | 0, _, _ => by simp [dec]
  | k + 1, h, hd => by
    rw [dec_take s k h]
    have := dec_lt' s k (by omega) (fun j h1 h2 => hd j h1 (by omega))
    have h2 := hd k h (by omega)
    rw [Nat.pow_succ]
    omega
theorem neg_yes (s : ByteArray) (h : 0 < s.size) (h45 : s[0].toNat = 45) : negOf s = true ∧ digOf s = s.extract 1 s.size := by
  have hc : s[0] = 45 := UInt8.toNat_inj.1 h45
  obtain ⟨x, l, hl⟩ : ∃ x l, s.data.toList = x :: l := by
    cases hq : s.data.toList with
    | nil => exact absurd (by rw [Lib.size_eq, hq]; rfl) (Nat.ne_of_gt h)
    | cons x l => exact ⟨x, l, rfl⟩
  have hx : x = 45 := by
    have := toL_get s 0 h
    rw [ByteArray.toList_eq, hl] at this
    simpa [hc] using this
  subst hx
  have hp : negOf s = true := by unfold negOf Lib.hasPrefix; rw [hl]; simp
  refine ⟨hp, ?_⟩
  unfold digOf Lib.trimPrefix
  unfold negOf at hp
  rw [if_pos hp]
  apply ByteArray.ext
  rw [ByteArray.data_extract]
  apply Array.toList_inj.1
  rw [Array.toList_extract, List.extract_eq_take_drop, hl]
  simp [Lib.size_eq, hl]
theorem neg_no (s : ByteArray) (h : ∀ h : 0 < s.size, s[0].toNat ≠ 45) : negOf s = false ∧ digOf s = s := by
  have hp : negOf s = false := by
    unfold negOf Lib.hasPrefix
    cases hq : s.data.toList with
    | nil => rfl
    | cons x l =>
      have h0 : 0 < s.size := by rw [Lib.size_eq, hq]; simp
      have := toL_get s 0 h0
      rw [ByteArray.toList_eq, hq] at this
      have hx : x = s[0] := by simpa using this
      have hn : x ≠ 45 := fun e => h h0 (by rw [← hx, e]; rfl)
      simp only [List.isPrefixOf, Bool.and_true]
      simpa using fun e => hn e.symm
  refine ⟨hp, ?_⟩
  unfold digOf Lib.trimPrefix
  unfold negOf at hp
  rw [if_neg (by rw [hp]; simp)]
/-- What the reference's Read asks of the digits. -/
theorem ok_iff (s : ByteArray) : readOk s ↔ 0 < (digOf s).size ∧ allDig (digOf s) ∧ ¬ (∃ h : 0 < (digOf s).size, (digOf s)[0].toNat = 48 ∧ (negOf s = true ∨ 1 < (digOf s).size)) := by
  unfold readOk numOk
  generalize digOf s = D
  generalize negOf s = B
  have one : D.toList = [48] ↔ (D.size = 1 ∧ ∃ h : 0 < D.size, D[0].toNat = 48) := by
    constructor
    · intro e
      have h1 := toL_len D
      rw [e] at h1
      have h0 : 0 < D.size := by rw [← h1]; decide
      refine ⟨h1.symm, h0, ?_⟩
      have := toL_get D 0 h0
      rw [e] at this
      have hx : D[0] = 48 := by simpa using this.symm
      rw [hx]; rfl
    · rintro ⟨h1, h0, h2⟩
      have hx : D[0] = 48 := UInt8.toNat_inj.1 h2
      have ht := take_snoc D 0 h0
      rw [hx] at ht
      have hl := toL_len D
      rw [← List.take_of_length_le (l := D.toList) (i := 1) (by omega)]
      simpa using ht
  constructor
  · rintro ⟨⟨hd, h1⟩, h2⟩
    rcases h1 with h1 | ⟨h0, hne⟩
    · obtain ⟨hs, h0, h48⟩ := one.1 h1
      refine ⟨h0, hd, ?_⟩
      rintro ⟨_, _, h3 | h3⟩
      · exact h2 ⟨h3, h1⟩
      · omega
    · exact ⟨h0, hd, fun ⟨_, h3, _⟩ => hne h3⟩
  · rintro ⟨h0, hd, hn⟩
    refine ⟨⟨hd, ?_⟩, ?_⟩
    · by_cases h48 : D[0].toNat = 48
      · left
        exact one.2 ⟨by have : ¬ 1 < D.size := fun h => hn ⟨h0, h48, .inr h⟩
                        omega, h0, h48⟩
      · exact .inr ⟨h0, h48⟩
    · rintro ⟨hB, h1⟩
      obtain ⟨_, h0', h48⟩ := one.1 h1
      exact hn ⟨h0', h48, .inl hB⟩
theorem no_zero {s D : ByteArray} {B : Bool} (hD : digOf s = D) (hB : negOf s = B) (h0 : 0 < D.size) (h : D[0].toNat = 48) (h1 : B = true ∨ 1 < D.size) : ¬ readOk s := by
  subst hD hB; rw [ok_iff]; exact fun h2 => h2.2.2 ⟨h0, h, h1⟩
theorem no_empty {s D : ByteArray} (hD : digOf s = D) (h : D.size = 0) : ¬ readOk s := by
  subst hD; rw [ok_iff]; exact fun h2 => absurd h2.1 (by omega)
theorem no_dig {s D : ByteArray} (hD : digOf s = D) (j : Nat) (h : j < D.size) (hx : ¬ (48 ≤ D[j].toNat ∧ D[j].toNat ≤ 57)) : ¬ readOk s := by
  subst hD; rw [ok_iff]; exact fun h2 => hx (h2.2.1 j h)
theorem yes_ok {s D : ByteArray} {B : Bool} (hD : digOf s = D) (hB : negOf s = B) (h0 : 0 < D.size) (h : ¬ (D[0].toNat = 48 ∧ (B = true ∨ 1 < D.size))) (hd : ∀ j (h : j < D.size), j < D.size → 48 ≤ D[j].toNat ∧ D[j].toNat ≤ 57) : readOk s := by
  subst hD hB; rw [ok_iff]; exact ⟨h0, fun j hj => hd j hj hj, fun ⟨_, h2⟩ => h h2⟩
theorem dig_len {k v : Nat} (h : v < 10 ^ k) (hk : k ≤ 100) : v < 4294967296 ^ 11 := by
  have h1 : 10 ^ k ≤ 10 ^ 100 := Nat.pow_le_pow_right (by decide) hk
  have h2 : 10 ^ 100 ≤ 4294967296 ^ 11 := by decide
  omega

end Go.Proofs.YtlpoboikompjfaaGreatDoor
namespace Go.Proofs.YtlpoboikompjfaaGreatDoor
open Go.RowKit
theorem tx_dec (n : Nat) : dec (tx n) = n := by
  induction n using Nat.strongRecOn with
  | ind n ih =>
    rw [tx]
    split
    · rename_i h
      simp [dec, UInt8.toNat_ofNat', Nat.mod_eq_of_lt (show 48 + n < 256 by omega)]
    · rename_i h
      rw [dec_snoc, ih (n / 10) (by omega), UInt8.toNat_ofNat', Nat.mod_eq_of_lt (by omega)]
      omega
theorem tx_ne (n : Nat) : tx n ≠ [] := by
  rw [tx]; split <;> simp
theorem tx_digL (n : Nat) : digL (tx n) := by
  induction n using Nat.strongRecOn with
  | ind n ih =>
    rw [tx]
    split
    · rename_i h
      intro c hc
      rw [List.mem_singleton] at hc
      subst hc
      rw [UInt8.toNat_ofNat', Nat.mod_eq_of_lt (by omega)]
      omega
    · rename_i h
      intro c hc
      rcases List.mem_append.1 hc with h1 | h1
      · exact ih (n / 10) (by omega) c h1
      · rw [List.mem_singleton] at h1
        subst h1
        rw [UInt8.toNat_ofNat', Nat.mod_eq_of_lt (by omega)]
        omega
theorem tx_head (n : Nat) (hn : n ≠ 0) : (tx n).head? ≠ some 48 := by
  induction n using Nat.strongRecOn with
  | ind n ih =>
    rw [tx]
    split
    · rename_i h
      intro he
      have h1 := congrArg UInt8.toNat (Option.some.inj (by simpa using he : some (UInt8.ofNat (48 + n)) = some 48))
      rw [UInt8.toNat_ofNat', Nat.mod_eq_of_lt (by omega)] at h1
      have : (48 : UInt8).toNat = 48 := rfl
      omega
    · rename_i h
      have := ih (n / 10) (by omega) (by omega)
      cases hq : tx (n / 10) with
      | nil => exact absurd hq (tx_ne _)
      | cons x l => rw [hq] at this; simpa using this
theorem tx_len : ∀ j n, n < 10 ^ (j + 1) → (tx n).length ≤ j + 1
  | 0, n, h => by rw [tx, if_pos (by omega)]; simp
  | j + 1, n, h => by
    rw [tx]
    split
    · simp
    · have := tx_len j (n / 10) (by rw [Nat.pow_succ] at h; omega)
      simp only [List.length_append, List.length_singleton]
      omega
theorem toL_eq {s t : ByteArray} (h : s.toList = t.toList) : s = t := by
  rw [ByteArray.toList_eq, ByteArray.toList_eq] at h
  apply ByteArray.ext
  exact Array.toList_inj.1 h
theorem txt_toL (z : Int) : (txt z).toList = (if z < 0 then [45] else []) ++ tx z.natAbs := by
  rw [ByteArray.toList_eq]; rfl
theorem get_of {s : ByteArray} {l : List UInt8} (h : s.toList = l) (k : Nat) (hk : k < s.size) : l[k]? = some s[k] := by rw [← h]; exact toL_get s k hk
theorem dig_of {s : ByteArray} (h : digL s.toList) : allDig s := by
  intro j hj
  have := get_of rfl j hj
  exact h _ (List.mem_of_getElem? this)
theorem dig_to {s : ByteArray} (h : allDig s) : digL s.toList := by
  intro c hc
  obtain ⟨j, hj⟩ := List.getElem?_of_mem hc
  have hjs : j < s.size := by
    rcases Nat.lt_or_ge j s.size with h0 | h0
    · exact h0
    · rw [List.getElem?_eq_none (by rw [toL_len]; exact h0)] at hj; cases hj
  rw [toL_get s j hjs] at hj
  cases hj
  exact h j hjs
theorem head_of {s : ByteArray} (h : 0 < s.size) : s.toList.head? = some s[0] := by
  rw [List.head?_eq_getElem?]; exact toL_get s 0 h
/-- The two parts of a text. -/
theorem parts (z : Int) : (digOf (txt z)).toList = tx z.natAbs ∧ negOf (txt z) = decide (z < 0) := by
  have hL := txt_toL z
  by_cases h : z < 0
  · rw [if_pos h] at hL
    have hs : 0 < (txt z).size := by rw [← toL_len, hL]; simp
    have h0 := get_of hL 0 hs
    have h45 : (txt z)[0].toNat = 45 := by
      simp only [List.cons_append, List.nil_append, List.getElem?_cons_zero, Option.some.injEq] at h0
      rw [← h0]; rfl
    obtain ⟨h1, h2⟩ := neg_yes (txt z) hs h45
    refine ⟨?_, by rw [h1, decide_eq_true h]⟩
    rw [h2, toL_ext, hL]
    have hl := toL_len (txt z)
    rw [hL] at hl
    simp only [List.cons_append, List.nil_append, List.length_cons] at hl
    simp only [List.cons_append, List.nil_append, List.drop_succ_cons, List.drop_zero]
    exact List.take_of_length_le (by omega)
  · rw [if_neg h, List.nil_append] at hL
    obtain ⟨h1, h2⟩ := neg_no (txt z) (fun hs h45 => by
      have h0 := get_of hL 0 hs
      have := tx_digL z.natAbs _ (List.mem_of_getElem? h0)
      omega)
    exact ⟨by rw [h2, hL], by rw [h1, decide_eq_false h]⟩
theorem txt_ok (z : Int) : readOk (txt z) ∧ readZ (txt z) = z := by
  obtain ⟨h1, h2⟩ := parts z
  constructor
  · rw [ok_iff]
    have hs : 0 < (digOf (txt z)).size := by
      rw [← toL_len, h1]
      exact List.length_pos_iff.2 (tx_ne _)
    refine ⟨hs, dig_of (by rw [h1]; exact tx_digL _), ?_⟩
    rintro ⟨_, h3, h4⟩
    have h5 := head_of hs
    rw [h1] at h5
    have hz : z.natAbs = 0 := Classical.byContradiction fun h => tx_head _ h (by rw [h5, show (digOf (txt z))[0] = 48 from UInt8.toNat_inj.1 h3])
    rcases h4 with h4 | h4
    · rw [h2] at h4
      have := of_decide_eq_true h4
      omega
    · rw [← toL_len, h1, hz, tx, if_pos (by omega)] at h4
      simp at h4
  · unfold readZ
    rw [h1, h2, tx_dec]
    unfold zOf
    by_cases h : z < 0
    · rw [decide_eq_true h, if_pos rfl]; omega
    · rw [decide_eq_false h, if_neg (by simp)]; omega
theorem read_txt (s : ByteArray) (h : readOk s) : txt (readZ s) = s := by
  have hk := (ok_iff s).1 h
  obtain ⟨h0, hd, hn⟩ := hk
  have hD : (digOf s).toList = tx (dec (digOf s).toList) := by
    by_cases h48 : (digOf s)[0].toNat = 48
    · have h1 : (digOf s).size = 1 := by
        have : ¬ 1 < (digOf s).size := fun h => hn ⟨h0, h48, .inr h⟩
        omega
      have h2 := take_snoc (digOf s) 0 h0
      rw [show (digOf s)[0] = 48 from UInt8.toNat_inj.1 h48, List.take_of_length_le (by rw [toL_len]; omega)] at h2
      rw [h2]
      simp [dec]
      rw [tx, if_pos (by omega)]
      rfl
    · exact tx_of _ _ rfl (by rw [← List.length_pos_iff, toL_len]; exact h0) (dig_to hd) (by
        rw [head_of h0]
        exact fun e => h48 (by rw [Option.some.inj e]; rfl))
  obtain ⟨V, hV⟩ : ∃ V, V = dec (digOf s).toList := ⟨_, rfl⟩
  have hz : readZ s = zOf (negOf s) V := by rw [hV]; rfl
  rw [← hV] at hD
  apply toL_eq
  rw [txt_toL, hz]
  by_cases h45 : ∃ hs : 0 < s.size, s[0].toNat = 45
  · obtain ⟨hs, h45⟩ := h45
    obtain ⟨h1, h2⟩ := neg_yes s hs h45
    have hV0 : V ≠ 0 := by
      intro h3
      rw [h3, tx, if_pos (by omega)] at hD
      have h4 := head_of h0
      rw [hD] at h4
      exact hn ⟨h0, by rw [← Option.some.inj h4]; rfl, .inl h1⟩
    rw [h1]
    have hzn : zOf true V < 0 := by unfold zOf; rw [if_pos rfl]; omega
    have hza : (zOf true V).natAbs = V := by unfold zOf; rw [if_pos rfl]; omega
    rw [if_pos hzn, hza, ← hD, h2, toL_ext]
    have hl := toL_len s
    have h5 := head_of hs
    rw [show s[0] = 45 from UInt8.toNat_inj.1 h45] at h5
    cases hq : s.toList with
    | nil => rw [hq] at h5; cases h5
    | cons x l =>
      rw [hq] at h5 hl
      simp only [List.head?_cons, Option.some.injEq] at h5
      subst h5
      simp only [List.length_cons] at hl
      simp only [List.drop_succ_cons, List.drop_zero, List.cons_append, List.nil_append]
      rw [List.take_of_length_le (by omega)]
  · obtain ⟨h1, h2⟩ := neg_no s (fun hs h => h45 ⟨hs, h⟩)
    rw [h1]
    have hzn : ¬ zOf false V < 0 := by unfold zOf; rw [if_neg (by simp)]; omega
    have hza : (zOf false V).natAbs = V := by unfold zOf; rw [if_neg (by simp)]; omega
    rw [if_neg hzn, hza, ← hD, h2, List.nil_append]
theorem txt_size {k : Nat} {z : Int} (hz : Sz k z) (hk : k ≤ 12) : (txt z).size ≤ 200 := by
  have h1 : z.natAbs < 4294967296 ^ 12 := Nat.lt_of_lt_of_le hz.lt (Nat.pow_le_pow_right (by decide) hk)
  have h2 : 4294967296 ^ 12 ≤ 10 ^ (115 + 1) := by decide
  have h3 := tx_len 115 z.natAbs (Nat.lt_of_lt_of_le h1 h2)
  rw [← toL_len, txt_toL]
  split <;> simp only [List.length_append, List.length_cons, List.length_nil] <;> omega
theorem readZ_sz {s : ByteArray} (hs : s.size ≤ 100) (h : readOk s) : Sz 12 (readZ s) := by
  obtain ⟨h0, hd, _⟩ := (ok_iff s).1 h
  have h1 := digOf_size s
  have h2 := dig_len (dec_lt' (digOf s) (digOf s).size (Nat.le_refl _) (fun j hj _ => hd j hj)) (by omega)
  rw [List.take_of_length_le (by rw [toL_len]; omega)] at h2
  refine Sz.of ?_ (by decide)
  unfold readZ
  have h3 : (zOf (negOf s) (dec (digOf s).toList)).natAbs = dec (digOf s).toList := by
    unfold zOf; split <;> omega
  rw [h3]
  omega
end Go.Proofs.YtlpoboikompjfaaGreatDoor
namespace Go.Proofs.YtlpoboikompjfaaGreatDoor
/-- The bytes of an integer's text. -/
def tl (z : Int) : List UInt8 := (if z < 0 then [45] else []) ++ tx z.natAbs
theorem tl_txt (z : Int) : (txt z).toList = tl z := txt_toL z
theorem tl_inj {a b : Int} (h : tl a = tl b) : a = b := by
  have h1 : txt a = txt b := toL_eq (by rw [tl_txt, tl_txt, h])
  rw [← (txt_ok a).2, ← (txt_ok b).2, h1]
theorem tl_slash (z : Int) : ∀ c ∈ tl z, c ≠ 47 := by
  intro c hc
  rcases List.mem_append.1 hc with h | h
  · split at h
    · rw [List.mem_singleton] at h; subst h; decide
    · cases h
  · have := tx_digL _ _ h
    rintro rfl
    have h2 : (47 : UInt8).toNat = 47 := rfl
    omega
/-- The bytes of a fraction's text. -/
def rt (q : Rat) : List UInt8 := if q.den = 1 then tl q.num else tl q.num ++ 47 :: tl (q.den : Int)
theorem rt_cut (l m : List UInt8) (h : ∀ c ∈ l, c ≠ 47) : (l ++ m).takeWhile (· != 47) = l ++ m.takeWhile (· != 47) ∧ (l ++ m).dropWhile (· != 47) = m.dropWhile (· != 47) := by
  induction l with
  | nil => exact ⟨rfl, rfl⟩
  | cons x l ih =>
    have hx : (x != 47) = true := by simpa using h x (List.mem_cons_self)
    obtain ⟨h1, h2⟩ := ih (fun c hc => h c (List.mem_cons_of_mem _ hc))
    constructor
    · rw [List.cons_append, List.takeWhile_cons, if_pos hx, h1]; rfl
    · rw [List.cons_append, List.dropWhile_cons, if_pos hx, h2]
theorem rt_parts (q : Rat) : (rt q).takeWhile (· != 47) = tl q.num ∧ (rt q).dropWhile (· != 47) = if q.den = 1 then [] else 47 :: tl (q.den : Int) := by
  unfold rt
  by_cases h : q.den = 1
  · rw [if_pos h, if_pos h]
    have := rt_cut (tl q.num) [] (tl_slash _)
    simpa using this
  · rw [if_neg h, if_neg h]
    have := rt_cut (tl q.num) (47 :: tl (q.den : Int)) (tl_slash _)
    simpa using this
theorem rt_inj {a b : Rat} (h : rt a = rt b) : a = b := by
  obtain ⟨a1, a2⟩ := rt_parts a
  obtain ⟨b1, b2⟩ := rt_parts b
  rw [h] at a1 a2
  have h1 : a.num = b.num := tl_inj (a1.symm.trans b1)
  have h2 := a2.symm.trans b2
  have h3 : a.den = b.den := by
    by_cases ha : a.den = 1
    · by_cases hb : b.den = 1
      · rw [ha, hb]
      · rw [if_pos ha, if_neg hb] at h2; cases h2
    · by_cases hb : b.den = 1
      · rw [if_neg ha, if_pos hb] at h2; cases h2
      · rw [if_neg ha, if_neg hb] at h2
        have := tl_inj (List.cons.inj h2).2
        omega
  exact Rat.ext h1 h3
/-- A fraction's text as a string. -/
def rtxt (q : Rat) : ByteArray := ⟨(rt q).toArray⟩
theorem rtxt_inj (a b : Rat) : rtxt a = rtxt b ↔ a = b := by
  constructor
  · intro h
    apply rt_inj
    have := congrArg ByteArray.toList h
    rw [ByteArray.toList_eq, ByteArray.toList_eq] at this
    exact this
  · rintro rfl; rfl
end Go.Proofs.YtlpoboikompjfaaGreatDoor
namespace Go.Proofs.YtlpoboikompjfaaGreatDoor
open Go.RowKit
theorem gcd_step (x y : Int) (_hy : y ≠ 0) : Nat.gcd y.natAbs (x % y).natAbs = Nat.gcd x.natAbs y.natAbs := by
  have h1 : Int.gcd y (x % y) = Int.gcd x y := by
    rw [Int.gcd_comm x y]
    conv => rhs; rw [← Int.emod_add_mul_ediv x y]
    rw [Int.gcd_add_mul_left_right]
  exact h1
set_option maxRecDepth 1000000 in
set_option maxHeartbeats 4000000 in
theorem rgcd_z (neg neg' : Bool) (A A' : Option Addr) (n c m d : Nat) {k : Nat} {a b : Int} (w : World) (ha : IsInt w neg A n c a) (hb : IsInt w neg' A' m d b) (sa : Sz k a) (sb : Sz k b) (hk : k + 1 + 1 ≤ 10000) :
    Calls Tryz.prog 65 #[.agg #[.bool neg, .slice A n c], .agg #[.bool neg', .slice A' m d]] w (RetInt w ((Nat.gcd a.natAbs b.natAbs : Nat) : Int)) := by
  obtain ⟨HB, P0, Q0, R0⟩ := frame21 w (.bool neg) (.slice A n c) (.bool neg') (.slice A' m d)
  have IA : IntAt _ w.heap.size a := ⟨neg, A, n, c, P0, ha.below HB⟩
  have IB : IntAt _ (w.heap.size + 1) b := ⟨neg', A', m, d, Q0, hb.below HB⟩
  clear ha hb P0 Q0
  go_enter Tryz.func65, Tryz.ntmps65
  go_wp2_with fail
  go_loopg [7] b.natAbs (fun g _ wr => ∃ x y : Int, IntAt wr w.heap.size x ∧ IntAt wr (w.heap.size + 1) y ∧ Hid (y.natAbs = g) ∧ Hid (Nat.gcd x.natAbs y.natAbs = Nat.gcd a.natAbs b.natAbs) ∧ Sz k x ∧ Sz k y ∧ Slot2 wr (w.heap.size + 1 + 1) (.bool false) (.slice none 0 0) ∧ Below w.heap.size w wr)
  case atStart => exact ⟨a, b, IA, IB, rfl, rfl, sa, sb, R0, HB⟩
  case round =>
    obtain ⟨x, y, ⟨gx, Ax, nx, cx, Sx, Ix⟩, ⟨gy, Ay, ny, cy, Sy, Iy⟩, hg, hgcd, sx, sy, R, B⟩ := hrel
    have ⟨x0, x1, _, _, _⟩ := Sy
    obtain ⟨s, hs⟩ : ∃ s, sgn y = s := ⟨_, rfl⟩
    have HSG := Lib.hid hs
    by_cases hy : y = 0
    · have hs0 : (s != 0) = false := by rw [← hs, hy]; rfl
      have HY := Lib.hid hy
      clear hs hy
      go_wp2_with fail
      (with_reducible refine (rsign_z gy Ay ny cy _ s Iy HSG.out).mono ?_)
      rintro e w1 ⟨rfl, h1⟩
      have Sx1 := Sx.after h1
      have R1 := R.after h1
      have Ix1 := Ix.below h1
      have B1 := B.trans (h1.mono B.size)
      have ⟨y0, y1, _, _, _⟩ := Sx1
      clear x0 x1
      go_wp2_with fail
      (with_reducible refine (rmadeAbs_z gx Ax nx cx _ Ix1 sx).mono ?_)
      rintro e w2 ⟨g2, A2, n2, c2, rfl, i2, h2⟩
      have hfin : ((x.natAbs : Nat) : Int) = ((Nat.gcd a.natAbs b.natAbs : Nat) : Int) := by rw [← hgcd.out, HY.out]; simp
      rw [hfin] at i2
      clear hfin
      obtain ⟨k0, k1, k2, k3, _⟩ := R1.after h2
      go_wp2
      exact bodyPost_ret (v := .agg #[.bool g2, .slice A2 n2 c2]) (by simp [results, Tryz.results65, go_sem, k0, k1]) rfl (RetInt.stored i2 B1 h2 (by omega) k0 k1 rfl rfl)
    · have hs0 : (s != 0) = true := by
        have := sgn_ne' hy
        rw [hs] at this
        simpa using this
      have HY := Lib.hid hy
      have hrm := Int.emod_nonneg x hy
      have hrl := Int.emod_lt x hy
      have hgs := gcd_step x y hy
      have zr : Sz k (x % y) := Sz.mod sy hy
      have HDM := fun W (hW : Below wr.heap.size wr W) => rdm_z gx gy Ax Ay nx cx ny cy W (Ix.below hW) (Iy.below hW) sx sy hy hk
      have HDM' := Lib.hid HDM
      have HGS := Lib.hid hgs
      clear hs hy HDM hgs
      go_wp2_with fail
      (with_reducible refine (rsign_z gy Ay ny cy _ s Iy HSG.out).mono ?_)
      rintro e w1 ⟨rfl, h1⟩
      have Sx1 := Sx.after h1
      have Sy1 := Sy.after h1
      have ⟨y0, y1, _, _, _⟩ := Sx1
      have ⟨y2, y3, _, _, _⟩ := Sy1
      clear x0 x1
      go_wp2_with fail
      (with_reducible refine (HDM'.out _ h1).mono ?_)
      rintro e w2 ⟨g1, A1, n1, c1, g2, A2, n2, c2, rfl, i1, i2, hb2⟩
      obtain ⟨BQ, DQ⟩ := two_new i1 i2
      have D := (h1.trans (hb2.mono h1.size)).trans (DQ.mono (h1.trans (hb2.mono h1.size)).size)
      have Sx4 := Sx.after D
      have Sy4 := Sy.after D
      have Iy4 := Iy.below D
      have R4 := R.after D
      have B4 := B.trans (D.mono B.size)
      have hw2 : w.heap.size + 1 + 1 < w2.heap.size := Nat.lt_of_lt_of_le R.2.2.2.2 (h1.trans (hb2.mono h1.size)).size
      clear y0 y1 y2 y3 Sx1 Sy1 Sx Sy Ix Iy R B h1 hb2 DQ D i1 i2 HDM' HSG
      go_upto_region 3 with (fail)
      generalize (w2.alloc (.cells #[.bool g1, .slice A1 n1 c1] 26)).alloc (.cells #[.bool g2, .slice A2 n2 c2] 26) = W4 at *
      generalize w2.heap.size = g7 at *
      obtain ⟨gr, Ar, nr, cr, Sr, Ir⟩ := BQ (g7 + 1, x % y) (by simp)
      have ⟨y0, y1, y2, y3, _⟩ := Sx4
      have ⟨y4, y5, y6, y7, _⟩ := Sy4
      have ⟨y8, y9, _, _, _⟩ := Sr
      go_region
      have Sy5 := Sy4.far2 (g' := w.heap.size) (by omega) (.bool gy) (.slice Ay ny cy)
      have F1 : IntAt _ w.heap.size y := (IntAt.near2 Iy4 Sx4 rfl rfl).far2 (show w.heap.size ≠ w.heap.size + 1 by omega) Sy5 rfl rfl (.bool gr) (.slice Ar nr cr)
      have F2 : IntAt _ (w.heap.size + 1) (x % y) := IntAt.near2 (Ir.set2 Sx4 rfl rfl (.bool gy) (.slice Ay ny cy)) Sy5 rfl rfl
      have F3 := (R4.far2 (g' := w.heap.size) (by omega) (.bool gy) (.slice Ay ny cy)).far2 (g' := w.heap.size + 1) (by omega) (.bool gr) (.slice Ar nr cr)
      have F4 := Below.set2 (Below.set2 B4 (Nat.le_refl _) (.bool gy) (.slice Ay ny cy)) (Nat.le_succ _) (.bool gr) (.slice Ar nr cr)
      clear y0 y1 y2 y3 y4 y5 y6 y7 y8 y9
      go_wp2_with fail
      go_roundg (x % y).natAbs
      case measure => have := hg.out; omega
      case rel => exact ⟨y, x % y, F1.after (Below.refl _ _).drew, F2.after (Below.refl _ _).drew, rfl, HGS.out.trans hgcd.out, sy, zr, F3.drew, F4.drew⟩
end Go.Proofs.YtlpoboikompjfaaGreatDoor
namespace Go.Proofs.YtlpoboikompjfaaGreatDoor
open Go.RowKit
theorem noRet {w w' : World} {gn gd : Bool} {An Ad : Option Addr} {nn cn nd cd : Nat} {q : Rat} (h : IsRat w gn An nn cn gd Ad nd cd q) (hb : Below w.heap.size w w') : IsRat w' gn An nn cn gd Ad nd cd q := h.below hb

/-- What both divisions of Of are, for a positive denominator. -/
theorem rq_facts {k : Nat} (n d : Int) (sd : Sz k d) (hd : 0 < d) : ∃ g' : Int, ((Nat.gcd n.natAbs d.natAbs : Nat) : Int) = g' ∧ (n / g' = (Rat.divInt n d).num ∧ d / g' = ((Rat.divInt n d).den : Int)) ∧ g' ≠ 0 ∧ Sz k g' := by
  have hgp : 0 < Nat.gcd n.natAbs d.natAbs := Nat.gcd_pos_of_pos_right _ (by omega)
  have hgle : Nat.gcd n.natAbs d.natAbs ≤ d.natAbs := Nat.gcd_le_right _ (by omega)
  exact ⟨_, rfl, ⟨r_num n d hd, r_den n d hd⟩, by omega, Sz.of (by have := sd.lt; omega) sd.le⟩

set_option maxRecDepth 1000000 in
set_option maxHeartbeats 4000000 in
theorem rqof_pos (gn : Bool) (An : Option Addr) (nn cn : Nat) (gd : Bool) (Ad : Option Addr) (nd cd : Nat) {k : Nat} {n d : Int} (w : World) (hn : IsInt w gn An nn cn n) (hd : IsInt w gd Ad nd cd d) (zn : Sz k n) (zd : Sz k d) (hk : k + 1 + 1 ≤ 10000) (h0 : 0 < d) :
    Calls Tryz.prog 13 #[.agg #[.bool gn, .slice An nn cn], .agg #[.bool gd, .slice Ad nd cd]] w (RetRatE w (Rat.divInt n d) 0) := by
  obtain ⟨g', hg', hq, hg0, zg⟩ := rq_facts n d zd h0
  have HG := Lib.hid hg'
  have HQ := Lib.hid hq
  have HS : Hid (sgn d = 1) := by show sgn d = 1; unfold sgn; rw [if_neg (by omega), if_pos h0]
  clear hg' hq h0
  have b1 := (Below.refl w.heap.size w).alloc (Nat.le_refl _) (.cells #[.bool gn, .slice An nn cn] 26)
  have b2 := b1.alloc b1.size (.cells #[.bool gd, .slice Ad nd cd] 26)
  have B0 := b2.alloc b2.size (.cells #[.bool false, .slice none 0 0, .bool false, .slice none 0 0] 28)
  have P0 := ((Slot2.new w (.bool gn) (.slice An nn cn) 26).alloc (.cells #[.bool gd, .slice Ad nd cd] 26)).alloc (.cells #[.bool false, .slice none 0 0, .bool false, .slice none 0 0] 28)
  have Q0 := (Slot2.new (w.alloc (.cells #[.bool gn, .slice An nn cn] 26)) (.bool gd) (.slice Ad nd cd) 26).alloc (.cells #[.bool false, .slice none 0 0, .bool false, .slice none 0 0] 28)
  have R0 := Slot4.new ((w.alloc (.cells #[.bool gn, .slice An nn cn] 26)).alloc (.cells #[.bool gd, .slice Ad nd cd] 26)) (.bool false) (.slice none 0 0) (.bool false) (.slice none 0 0) 28
  simp only [World.size_alloc] at Q0 R0
  have In := hn.below B0
  have Id := hd.below B0
  clear hn hd b1 b2
  have ⟨q0, q1, _, _, _⟩ := Q0
  go_enter Tryz.func13, Tryz.ntmps13
  generalize hW : ((w.alloc (.cells #[.bool gn, .slice An nn cn] 26)).alloc (.cells #[.bool gd, .slice Ad nd cd] 26)).alloc (.cells #[.bool false, .slice none 0 0, .bool false, .slice none 0 0] 28) = W0 at *
  go_wp2_with fail
  try rw [hW]
  clear hW
  (with_reducible refine (rsign_z gd Ad nd cd _ 1 Id HS.out).mono ?_)
  rintro e w1 ⟨rfl, hb1⟩
  have Q1 := Q0.after hb1
  have ⟨y0, y1, _, _, _⟩ := Q1
  clear q0 q1
  go_wp2_with fail
  (with_reducible refine (rsign_z gd Ad nd cd _ 1 (Id.below hb1) HS.out).mono ?_)
  rintro e w2 ⟨rfl, hb2⟩
  have hb := hb1.trans (hb2.mono hb1.size)
  have P := P0.after hb
  have Q := Q0.after hb
  have R := R0.after hb
  have Jn := In.below hb
  have Jd := Id.below hb
  have B := B0.trans (hb.mono B0.size)
  clear y0 y1 P0 Q0 R0 Q1 In Id B0 hb hb1 hb2
  have ⟨p0, p1, _, _, _⟩ := P
  have ⟨q0, q1, _, _, _⟩ := Q
  go_wp2_with fail
  (with_reducible refine (rgcd_z gn gd An Ad nn cn nd cd _ Jn Jd zn zd hk).mono ?_)
  rintro e w2 ⟨g2, A2, n2, c2, rfl, hi2, hb2⟩
  rw [HG.out] at hi2
  have hn2 := (Below.refl w2.heap.size w2).alloc (Nat.le_refl _) (.cells #[.bool g2, .slice A2 n2 c2] 26)
  have hb3 := hb2.trans (hn2.mono hb2.size)
  have G3 := Slot2.new w2 (.bool g2) (.slice A2 n2 c2) 26
  have Jg3 := hi2.below hn2
  have P3 := P.after hb3
  have Q3 := Q.after hb3
  have R3 := R.after hb3
  have Jn3 := Jn.below hb3
  have Jd3 := Jd.below hb3
  have B3 := B.trans (hb3.mono B.size)
  clear P Q R Jn Jd B p0 p1 q0 q1 hb2 hb3 hi2 hn2
  have ⟨p0, p1, _, _, _⟩ := P3
  have ⟨g0, g1, _, _, _⟩ := G3
  generalize hW : w2.alloc (.cells #[.bool g2, .slice A2 n2 c2] 26) = W3 at *
  go_wp2_with fail
  try rw [hW]
  clear hW
  (with_reducible refine (rdm_z gn g2 An A2 nn cn n2 c2 _ Jn3 Jg3 zn zg hg0 hk).mono ?_)
  rintro e w6 ⟨g5, A5, n5, c5, g6, A6, n6, c6, rfl, hi5, hi6, hb6⟩
  rw [HQ.out.1] at hi5
  have b7 := (Below.refl w6.heap.size w6).alloc (Nat.le_refl _) (.cells #[.bool g5, .slice A5 n5 c5] 26)
  have b8 := b7.alloc b7.size (.cells #[.bool g6, .slice A6 n6 c6] 26)
  have hb8 := hb6.trans (b8.mono hb6.size)
  have X8 := (Slot2.new w6 (.bool g5) (.slice A5 n5 c5) 26).alloc (.cells #[.bool g6, .slice A6 n6 c6] 26)
  have Jx8 := hi5.below b8
  have Q8 := Q3.after hb8
  have R8 := R3.after hb8
  have G8 := G3.after hb8
  have Jd8 := Jd3.below hb8
  have Jg8 := Jg3.below hb8
  have B8 := B3.trans (hb8.mono B3.size)
  clear P3 Q3 R3 G3 Jn3 Jd3 Jg3 B3 p0 p1 g0 g1 b7 b8 hb6 hb8 hi5 hi6
  have ⟨q0, q1, _, _, _⟩ := Q8
  have ⟨g0, g1, _, _, _⟩ := G8
  generalize hW : (w6.alloc (.cells #[.bool g5, .slice A5 n5 c5] 26)).alloc (.cells #[.bool g6, .slice A6 n6 c6] 26) = W8 at *
  go_wp2_with fail
  try rw [hW]
  clear hW
  (with_reducible refine (rdm_z gd g2 Ad A2 nd cd n2 c2 _ Jd8 Jg8 zd zg hg0 hk).mono ?_)
  rintro e w9 ⟨g9, A9, n9, c9, g10, A10, n10, c10, rfl, hi9, hi10, hb9⟩
  rw [HQ.out.2] at hi9
  have b11 := (Below.refl w9.heap.size w9).alloc (Nat.le_refl _) (.cells #[.bool g9, .slice A9 n9 c9] 26)
  have b12 := b11.alloc b11.size (.cells #[.bool g10, .slice A10 n10 c10] 26)
  have hb12 := hb9.trans (b12.mono hb9.size)
  have Y12 := (Slot2.new w9 (.bool g9) (.slice A9 n9 c9) 26).alloc (.cells #[.bool g10, .slice A10 n10 c10] 26)
  have Jy12 := hi9.below b12
  have X12 := X8.after hb12
  have Jx12 := Jx8.below hb12
  have R12 := R8.after hb12
  have B12 := B8.trans (hb12.mono B8.size)
  clear q0 q1 g0 g1 b11 b12 hb9 hb12 hi9 hi10 X8 Jx8 R8 B8 Q8 G8 Jd8 Jg8
  have ⟨x0, x1, _, _, _⟩ := X12
  have ⟨y0, y1, _, _, _⟩ := Y12
  have ⟨r0, r1, r2, r3, k0, k1, k2, k3, _⟩ := R12
  generalize hW : (w9.alloc (.cells #[.bool g9, .slice A9 n9 c9] 26)).alloc (.cells #[.bool g10, .slice A10 n10 c10] 26) = W12 at *
  go_wp2
  try rw [hW]
  clear hW
  refine bodyPost_ret (v := .tuple #[.agg #[.bool g5, .slice A5 n5 c5, .bool g9, .slice A9 n9 c9], .int .i64 0]) (by obtain ⟨v0, v1, v2, v3⟩ := R12.set4e (.bool g5) (.slice A5 n5 c5) (.bool g9) (.slice A9 n9 c9); simp [results, Tryz.results13, go_sem, v0, v1, v2, v3]) rfl ⟨_, _, _, _, _, _, _, _, rfl, ⟨Jx12.stored4 R12 rfl rfl rfl rfl _ _ _ _, Jy12.stored4 R12 rfl rfl rfl rfl _ _ _ _⟩, ?_⟩
  exact Below.set4 B12 (by omega) _ _ _ _
set_option maxRecDepth 1000000 in
set_option maxHeartbeats 4000000 in
theorem rqof_neg (gn : Bool) (An : Option Addr) (nn cn : Nat) (gd : Bool) (Ad : Option Addr) (nd cd : Nat) {k : Nat} {n e : Int} (w : World) (hn : IsInt w gn An nn cn n) (hd : IsInt w gd Ad nd cd e) (zn' : Sz k n) (zd' : Sz k e) (hk : k + 1 + 1 ≤ 10000) (h0 : e < 0) :
    Calls Tryz.prog 13 #[.agg #[.bool gn, .slice An nn cn], .agg #[.bool gd, .slice Ad nd cd]] w (RetRatE w (Rat.divInt n e) 0) := by
  obtain ⟨g', hg', hq, hg0, zg⟩ := rq_facts (-n) (-e) zd'.neg (by omega)
  rw [Rat.divInt_neg', Int.neg_neg] at hq
  have HG := Lib.hid hg'
  have HQ := Lib.hid hq
  have HS : Hid (sgn e = -1) := by show sgn e = -1; unfold sgn; rw [if_pos h0]
  have zn := zn'.neg
  have zd := zd'.neg
  clear hg' hq h0
  have b1 := (Below.refl w.heap.size w).alloc (Nat.le_refl _) (.cells #[.bool gn, .slice An nn cn] 26)
  have b2 := b1.alloc b1.size (.cells #[.bool gd, .slice Ad nd cd] 26)
  have B0 := b2.alloc b2.size (.cells #[.bool false, .slice none 0 0, .bool false, .slice none 0 0] 28)
  have P0 := ((Slot2.new w (.bool gn) (.slice An nn cn) 26).alloc (.cells #[.bool gd, .slice Ad nd cd] 26)).alloc (.cells #[.bool false, .slice none 0 0, .bool false, .slice none 0 0] 28)
  have Q0 := (Slot2.new (w.alloc (.cells #[.bool gn, .slice An nn cn] 26)) (.bool gd) (.slice Ad nd cd) 26).alloc (.cells #[.bool false, .slice none 0 0, .bool false, .slice none 0 0] 28)
  have R0 := Slot4.new ((w.alloc (.cells #[.bool gn, .slice An nn cn] 26)).alloc (.cells #[.bool gd, .slice Ad nd cd] 26)) (.bool false) (.slice none 0 0) (.bool false) (.slice none 0 0) 28
  simp only [World.size_alloc] at Q0 R0
  have In := hn.below B0
  have Id := hd.below B0
  clear hn hd b1 b2
  have ⟨q0, q1, _, _, _⟩ := Q0
  go_enter Tryz.func13, Tryz.ntmps13
  generalize hW : ((w.alloc (.cells #[.bool gn, .slice An nn cn] 26)).alloc (.cells #[.bool gd, .slice Ad nd cd] 26)).alloc (.cells #[.bool false, .slice none 0 0, .bool false, .slice none 0 0] 28) = W0 at *
  go_wp2_with fail
  try rw [hW]
  clear hW
  (with_reducible refine (rsign_z gd Ad nd cd _ (-1) Id HS.out).mono ?_)
  rintro ee w1 ⟨rfl, hb1⟩
  have Q1 := Q0.after hb1
  have ⟨y0, y1, _, _, _⟩ := Q1
  clear q0 q1
  go_wp2_with fail
  (with_reducible refine (rsign_z gd Ad nd cd _ (-1) (Id.below hb1) HS.out).mono ?_)
  rintro ee w2 ⟨rfl, hb2⟩
  have hb := hb1.trans (hb2.mono hb1.size)
  have P1 := P0.after hb
  have Q2 := Q0.after hb
  have HR : Hid (∀ V, Below w2.heap.size w2 V → Slot4 V (w.heap.size + 1 + 1) (.bool false) (.slice none 0 0) (.bool false) (.slice none 0 0)) := fun V hV => (R0.after hb).after hV
  have HR0 : Hid (Slot4 w2 (w.heap.size + 1 + 1) (.bool false) (.slice none 0 0) (.bool false) (.slice none 0 0)) := R0.after hb
  have Jn1 := In.below hb
  have Jd1 := Id.below hb
  have B1 := B0.trans (hb.mono B0.size)
  clear y0 y1 P0 Q0 R0 Q1 In Id B0 hb hb1 hb2 HR
  go_upto_region 4 with (fail)
  go_cut [] (fun wx => Below w.heap.size w wx ∧ IntAt wx w.heap.size (-n) ∧ IntAt wx (w.heap.size + 1) (-e) ∧ Slot4 wx (w.heap.size + 1 + 1) (.bool false) (.slice none 0 0) (.bool false) (.slice none 0 0))
  case first =>
    as_aux_lemma =>
      refine wp_region_ev (fun d a0 a' w' => ∃ u20 u21 u22 u23 : Value, a' = ((((a0.put (some 20) u20).put (some 21) u21).put (some 22) u22).put (some 23) u23) ∧ Below w.heap.size w w' ∧ (d 0 = true → IntV w' u20 (n)) ∧ (d 1 = true → IntV w' u21 (-n)) ∧ (d 2 = true → IntV w' u22 (e)) ∧ (d 3 = true → IntV w' u23 (-e)) ∧ (BlkI w' (w.heap.size) gn An nn cn (n) (d 4) (-n)) ∧ (BlkI w' (w.heap.size + 1) gd Ad nd cd (e) (d 5) (-e)) ∧ (Slot4 w' (w.heap.size + 1 + 1) (.bool false) (.slice none 0 0) (.bool false) (.slice none 0 0)) ∧ (d 4 = true → d 0 = true) ∧ (d 5 = true → d 2 = true)) (by kernel_rfl) (by kernel_rfl) ?_ ?_ ?_ ?_
      · intro d d' h a' w' hh
        obtain rfl : d = d' := funext h
        exact hh
      · exact ⟨_, _, _, _, (by simp only [Act.put, List.setIfInBounds_toArray, List.set_cons_zero, List.set_cons_succ]; rfl), Below.drew (B1), (fun h => by cases h), (fun h => by cases h), (fun h => by cases h), (fun h => by cases h), (BlkI.start P1 Jn1), (BlkI.start Q2 Jd1), (Slot4.drew (HR0.out)), (fun h => by cases h), (fun h => by cases h)⟩
      · refine ⟨?_, ?_, ?_, ?_, ?_, ?_, trivial⟩
        · intro d a2 w2 hd hm ⟨u20, u21, u22, u23, e, HB, f0, f1, f2, f3, kP, kQ, kR, o4_0, o5_2⟩ K hK
          subst e
          simp only [Act.put, List.setIfInBounds_toArray, List.set_cons_zero, List.set_cons_succ]
          have hs : d 4 = false := by cases hq : d 4 with | false => rfl | true => (have hz := o4_0 hq; rw [hd] at hz; cases hz)
          have ⟨⟨y0, y1, _, _, _⟩, iL⟩ := kP.1 hs
          clear hs
          go_simp
          exact hK.out _ _ ⟨.agg #[.bool gn, .slice An nn cn], u21, u22, u23, (by simp only [Act.put, List.setIfInBounds_toArray, List.set_cons_zero, List.set_cons_succ]), HB, (fun _ => ⟨_, _, _, _, rfl, iL⟩), (fun h => (f1 (by simpa using h))), (fun h => (f2 (by simpa using h))), (fun h => (f3 (by simpa using h))), (by simpa using (kP)), (by simpa using (kQ)), kR, (fun _ => by simp), (fun h => by simpa using o5_2 (by simpa using h))⟩
        · intro d a2 w2 hd hm ⟨u20, u21, u22, u23, e, HB, f0, f1, f2, f3, kP, kQ, kR, o4_0, o5_2⟩ K hK
          subst e
          simp only [Act.put, List.setIfInBounds_toArray, List.set_cons_zero, List.set_cons_succ]
          obtain ⟨G0, A0, N0, C0, rfl, I0⟩ := f0 (hm ⟨0, .data⟩ (by simp) rfl)
          go_simp
          (with_reducible refine (rneg_z G0 A0 N0 C0 _ I0 zn').mono ?_)
          rintro e w3 ⟨gg, AA, nn, cc, rfl, hi, hb⟩
          have HB3 := HB.trans (hb.mono HB.size)
          go_wp2_with fail
          exact hK.out _ _ ⟨.agg #[.bool G0, .slice A0 N0 C0], .agg #[.bool gg, .slice AA nn cc], u22, u23, (by simp only [Act.put, List.setIfInBounds_toArray, List.set_cons_zero, List.set_cons_succ]), HB3, (fun h => (f0 (by simpa using h)).below hb), (fun _ => ⟨_, _, _, _, rfl, hi⟩), (fun h => (f2 (by simpa using h)).below hb), (fun h => (f3 (by simpa using h)).below hb), (by simpa using (kP).below hb), (by simpa using (kQ).below hb), (kR.after hb), (fun h => by simpa using o4_0 (by simpa using h)), (fun h => by simpa using o5_2 (by simpa using h))⟩
        · intro d a2 w2 hd hm ⟨u20, u21, u22, u23, e, HB, f0, f1, f2, f3, kP, kQ, kR, o4_0, o5_2⟩ K hK
          subst e
          simp only [Act.put, List.setIfInBounds_toArray, List.set_cons_zero, List.set_cons_succ]
          have hs : d 5 = false := by cases hq : d 5 with | false => rfl | true => (have hz := o5_2 hq; rw [hd] at hz; cases hz)
          have ⟨⟨y0, y1, _, _, _⟩, iL⟩ := kQ.1 hs
          clear hs
          go_simp
          exact hK.out _ _ ⟨u20, u21, .agg #[.bool gd, .slice Ad nd cd], u23, (by simp only [Act.put, List.setIfInBounds_toArray, List.set_cons_zero, List.set_cons_succ]), HB, (fun h => (f0 (by simpa using h))), (fun h => (f1 (by simpa using h))), (fun _ => ⟨_, _, _, _, rfl, iL⟩), (fun h => (f3 (by simpa using h))), (by simpa using (kP)), (by simpa using (kQ)), kR, (fun h => by simpa using o4_0 (by simpa using h)), (fun _ => by simp)⟩
        · intro d a2 w2 hd hm ⟨u20, u21, u22, u23, e, HB, f0, f1, f2, f3, kP, kQ, kR, o4_0, o5_2⟩ K hK
          subst e
          simp only [Act.put, List.setIfInBounds_toArray, List.set_cons_zero, List.set_cons_succ]
          obtain ⟨G2, A2, N2, C2, rfl, I2⟩ := f2 (hm ⟨2, .data⟩ (by simp) rfl)
          go_simp
          (with_reducible refine (rneg_z G2 A2 N2 C2 _ I2 zd').mono ?_)
          rintro e w3 ⟨gg, AA, nn, cc, rfl, hi, hb⟩
          have HB3 := HB.trans (hb.mono HB.size)
          go_wp2_with fail
          exact hK.out _ _ ⟨u20, u21, .agg #[.bool G2, .slice A2 N2 C2], .agg #[.bool gg, .slice AA nn cc], (by simp only [Act.put, List.setIfInBounds_toArray, List.set_cons_zero, List.set_cons_succ]), HB3, (fun h => (f0 (by simpa using h)).below hb), (fun h => (f1 (by simpa using h)).below hb), (fun h => (f2 (by simpa using h)).below hb), (fun _ => ⟨_, _, _, _, rfl, hi⟩), (by simpa using (kP).below hb), (by simpa using (kQ).below hb), (kR.after hb), (fun h => by simpa using o4_0 (by simpa using h)), (fun h => by simpa using o5_2 (by simpa using h))⟩
        · intro d a2 w2 hd hm ⟨u20, u21, u22, u23, e, HB, f0, f1, f2, f3, kP, kQ, kR, o4_0, o5_2⟩ K hK
          subst e
          simp only [Act.put, List.setIfInBounds_toArray, List.set_cons_zero, List.set_cons_succ]
          obtain ⟨gg, AA, nn, cc, rfl, hi⟩ := f1 (hm ⟨1, .data⟩ (by simp) rfl)
          have hs := (kP.1 hd).1
          obtain ⟨k0, k1, k2, k3, k4⟩ := id hs
          go_simp
          exact hK.out _ _ ⟨u20, .agg #[.bool gg, .slice AA nn cc], u22, u23, (by simp only [Act.put, List.setIfInBounds_toArray, List.set_cons_zero, List.set_cons_succ]), Below.set2 HB (by omega) _ _, (fun h => (f0 (by simpa using h)).set2 hs rfl rfl _ _), (fun h => (f1 (by simpa using h)).set2 hs rfl rfl _ _), (fun h => (f2 (by simpa using h)).set2 hs rfl rfl _ _), (fun h => (f3 (by simpa using h)).set2 hs rfl rfl _ _), (by simpa using BlkI.near hi hs), (by simpa using (kQ).far2 (by omega) hs rfl rfl _ _), ((kR).far2 (by omega) _ _), (fun _ => by simpa using hm ⟨0, .phase⟩ (by simp) rfl), (fun h => by simpa using o5_2 (by simpa using h))⟩
        · intro d a2 w2 hd hm ⟨u20, u21, u22, u23, e, HB, f0, f1, f2, f3, kP, kQ, kR, o4_0, o5_2⟩ K hK
          subst e
          simp only [Act.put, List.setIfInBounds_toArray, List.set_cons_zero, List.set_cons_succ]
          obtain ⟨gg, AA, nn, cc, rfl, hi⟩ := f3 (hm ⟨3, .data⟩ (by simp) rfl)
          have hs := (kQ.1 hd).1
          obtain ⟨k0, k1, k2, k3, k4⟩ := id hs
          go_simp
          exact hK.out _ _ ⟨u20, u21, u22, .agg #[.bool gg, .slice AA nn cc], (by simp only [Act.put, List.setIfInBounds_toArray, List.set_cons_zero, List.set_cons_succ]), Below.set2 HB (by omega) _ _, (fun h => (f0 (by simpa using h)).set2 hs rfl rfl _ _), (fun h => (f1 (by simpa using h)).set2 hs rfl rfl _ _), (fun h => (f2 (by simpa using h)).set2 hs rfl rfl _ _), (fun h => (f3 (by simpa using h)).set2 hs rfl rfl _ _), (by simpa using (kP).far2 (by omega) hs rfl rfl _ _), (by simpa using BlkI.near hi hs), ((kR).far2 (by omega) _ _), (fun h => by simpa using o4_0 (by simpa using h)), (fun _ => by simpa using hm ⟨2, .phase⟩ (by simp) rfl)⟩
      · intro d a2 w2 hall ⟨u20, u21, u22, u23, e, HB, f0, f1, f2, f3, kP, kQ, kR, o4_0, o5_2⟩
        subst e
        simp only [Act.put, List.setIfInBounds_toArray, List.set_cons_zero, List.set_cons_succ]
        have eP := kP.2 (hall _ (by decide))
        have eQ := kQ.2 (hall _ (by decide))
        have eR := kR
        go_wp2_with fail
        go_meet
        exact ⟨HB, eP, eQ, eR⟩
  case rest =>
  obtain ⟨B, ⟨gN, AN, nN, cN, P, Jn⟩, ⟨gD, AD, nD, cD, Q, Jd⟩, R⟩ := hcut
  obtain ⟨W4, rfl⟩ : ∃ x : World, x = wc := ⟨_, rfl⟩
  clear P1 Q2 HR0 Jn1 Jd1 B1
  have ⟨p0, p1, _, _, _⟩ := P
  have ⟨q0, q1, _, _, _⟩ := Q
  go_wp2_with fail
  (with_reducible refine (rgcd_z gN gD AN AD nN cN nD cD _ Jn Jd zn zd hk).mono ?_)
  rintro e w2 ⟨g2, A2, n2, c2, rfl, hi2, hb2⟩
  rw [HG.out] at hi2
  have hn2 := (Below.refl w2.heap.size w2).alloc (Nat.le_refl _) (.cells #[.bool g2, .slice A2 n2 c2] 26)
  have hb3 := hb2.trans (hn2.mono hb2.size)
  have G3 := Slot2.new w2 (.bool g2) (.slice A2 n2 c2) 26
  have Jg3 := hi2.below hn2
  have P3 := P.after hb3
  have Q3 := Q.after hb3
  have R3 := R.after hb3
  have Jn3 := Jn.below hb3
  have Jd3 := Jd.below hb3
  have B3 := B.trans (hb3.mono B.size)
  clear P Q R Jn Jd B p0 p1 q0 q1 hb2 hb3 hi2 hn2
  have ⟨p0, p1, _, _, _⟩ := P3
  have ⟨g0, g1, _, _, _⟩ := G3
  generalize hW : w2.alloc (.cells #[.bool g2, .slice A2 n2 c2] 26) = W3 at *
  go_wp2_with fail
  try rw [hW]
  clear hW
  (with_reducible refine (rdm_z gN g2 AN A2 nN cN n2 c2 _ Jn3 Jg3 zn zg hg0 hk).mono ?_)
  rintro e w6 ⟨g5, A5, n5, c5, g6, A6, n6, c6, rfl, hi5, hi6, hb6⟩
  rw [HQ.out.1] at hi5
  have b7 := (Below.refl w6.heap.size w6).alloc (Nat.le_refl _) (.cells #[.bool g5, .slice A5 n5 c5] 26)
  have b8 := b7.alloc b7.size (.cells #[.bool g6, .slice A6 n6 c6] 26)
  have hb8 := hb6.trans (b8.mono hb6.size)
  have X8 := (Slot2.new w6 (.bool g5) (.slice A5 n5 c5) 26).alloc (.cells #[.bool g6, .slice A6 n6 c6] 26)
  have Jx8 := hi5.below b8
  have Q8 := Q3.after hb8
  have R8 := R3.after hb8
  have G8 := G3.after hb8
  have Jd8 := Jd3.below hb8
  have Jg8 := Jg3.below hb8
  have B8 := B3.trans (hb8.mono B3.size)
  clear P3 Q3 R3 G3 Jn3 Jd3 Jg3 B3 p0 p1 g0 g1 b7 b8 hb6 hb8 hi5 hi6
  have ⟨q0, q1, _, _, _⟩ := Q8
  have ⟨g0, g1, _, _, _⟩ := G8
  generalize hW : (w6.alloc (.cells #[.bool g5, .slice A5 n5 c5] 26)).alloc (.cells #[.bool g6, .slice A6 n6 c6] 26) = W8 at *
  go_wp2_with fail
  try rw [hW]
  clear hW
  (with_reducible refine (rdm_z gD g2 AD A2 nD cD n2 c2 _ Jd8 Jg8 zd zg hg0 hk).mono ?_)
  rintro e w9 ⟨g9, A9, n9, c9, g10, A10, n10, c10, rfl, hi9, hi10, hb9⟩
  rw [HQ.out.2] at hi9
  have b11 := (Below.refl w9.heap.size w9).alloc (Nat.le_refl _) (.cells #[.bool g9, .slice A9 n9 c9] 26)
  have b12 := b11.alloc b11.size (.cells #[.bool g10, .slice A10 n10 c10] 26)
  have hb12 := hb9.trans (b12.mono hb9.size)
  have Y12 := (Slot2.new w9 (.bool g9) (.slice A9 n9 c9) 26).alloc (.cells #[.bool g10, .slice A10 n10 c10] 26)
  have Jy12 := hi9.below b12
  have X12 := X8.after hb12
  have Jx12 := Jx8.below hb12
  have R12 := R8.after hb12
  have B12 := B8.trans (hb12.mono B8.size)
  clear q0 q1 g0 g1 b11 b12 hb9 hb12 hi9 hi10 X8 Jx8 R8 B8 Q8 G8 Jd8 Jg8
  have ⟨x0, x1, _, _, _⟩ := X12
  have ⟨y0, y1, _, _, _⟩ := Y12
  have ⟨r0, r1, r2, r3, k0, k1, k2, k3, _⟩ := R12
  generalize hW : (w9.alloc (.cells #[.bool g9, .slice A9 n9 c9] 26)).alloc (.cells #[.bool g10, .slice A10 n10 c10] 26) = W12 at *
  go_wp2
  try rw [hW]
  clear hW
  refine bodyPost_ret (v := .tuple #[.agg #[.bool g5, .slice A5 n5 c5, .bool g9, .slice A9 n9 c9], .int .i64 0]) (by obtain ⟨v0, v1, v2, v3⟩ := R12.set4e (.bool g5) (.slice A5 n5 c5) (.bool g9) (.slice A9 n9 c9); simp [results, Tryz.results13, go_sem, v0, v1, v2, v3]) rfl ⟨_, _, _, _, _, _, _, _, rfl, ⟨Jx12.stored4 R12 rfl rfl rfl rfl _ _ _ _, Jy12.stored4 R12 rfl rfl rfl rfl _ _ _ _⟩, ?_⟩
  exact Below.set4 B12 (by omega) _ _ _ _
theorem rqof_z (gn : Bool) (An : Option Addr) (nn cn : Nat) (gd : Bool) (Ad : Option Addr) (nd cd : Nat) {k : Nat} {n d : Int} (w : World) (hn : IsInt w gn An nn cn n) (hd : IsInt w gd Ad nd cd d) (zn : Sz k n) (zd : Sz k d) (hk : k + 1 + 1 ≤ 10000) (h0 : d ≠ 0) :
    Calls Tryz.prog 13 #[.agg #[.bool gn, .slice An nn cn], .agg #[.bool gd, .slice Ad nd cd]] w (RetRatE w (Rat.divInt n d) 0) := by
  rcases Int.lt_or_lt_of_ne h0 with h | h
  · exact rqof_neg gn An nn cn gd Ad nd cd w hn hd zn zd hk h
  · exact rqof_pos gn An nn cn gd Ad nd cd w hn hd zn zd hk h
set_option maxRecDepth 1000000 in
set_option maxHeartbeats 4000000 in
theorem rqofd_z (gn : Bool) (An : Option Addr) (nn cn : Nat) (gd : Bool) (Ad : Option Addr) (nd cd : Nat) {k : Nat} {n d : Int} (w : World) (hn : IsInt w gn An nn cn n) (hd : IsInt w gd Ad nd cd d) (zn : Sz k n) (zd : Sz k d) (hk : k + 1 + 1 ≤ 10000) (h0 : d ≠ 0) :
    Calls Tryz.prog 59 #[.agg #[.bool gn, .slice An nn cn], .agg #[.bool gd, .slice Ad nd cd]] w (RetRat w (Rat.divInt n d)) := by
  have b1 := (Below.refl w.heap.size w).alloc (Nat.le_refl _) (.cells #[.bool gn, .slice An nn cn] 26)
  have b2 := b1.alloc b1.size (.cells #[.bool gd, .slice Ad nd cd] 26)
  have B0 := b2.alloc b2.size (.cells #[.bool false, .slice none 0 0, .bool false, .slice none 0 0] 28)
  have P0 := ((Slot2.new w (.bool gn) (.slice An nn cn) 26).alloc (.cells #[.bool gd, .slice Ad nd cd] 26)).alloc (.cells #[.bool false, .slice none 0 0, .bool false, .slice none 0 0] 28)
  have Q0 := (Slot2.new (w.alloc (.cells #[.bool gn, .slice An nn cn] 26)) (.bool gd) (.slice Ad nd cd) 26).alloc (.cells #[.bool false, .slice none 0 0, .bool false, .slice none 0 0] 28)
  have R0 := Slot4.new ((w.alloc (.cells #[.bool gn, .slice An nn cn] 26)).alloc (.cells #[.bool gd, .slice Ad nd cd] 26)) (.bool false) (.slice none 0 0) (.bool false) (.slice none 0 0) 28
  simp only [World.size_alloc] at Q0 R0
  have HO := Lib.hid (rqof_z gn An nn cn gd Ad nd cd _ (hn.below B0) (hd.below B0) zn zd hk h0)
  clear hn hd b1 b2 h0
  have ⟨p0, p1, _, _, _⟩ := P0
  have ⟨q0, q1, _, _, _⟩ := Q0
  go_enter Tryz.func59, Tryz.ntmps59
  generalize hW : ((w.alloc (.cells #[.bool gn, .slice An nn cn] 26)).alloc (.cells #[.bool gd, .slice Ad nd cd] 26)).alloc (.cells #[.bool false, .slice none 0 0, .bool false, .slice none 0 0] 28) = W0 at *
  go_wp2_with fail
  try rw [hW]
  clear hW
  (with_reducible refine HO.out.mono ?_)
  rintro e w1 ⟨gnp1, Anp1, nnp1, cnp1, gdp1, Adp1, ndp1, cdp1, rfl, ip1, bp1⟩
  have T2 := Slot4.new w1 (.bool gnp1) (.slice Anp1 nnp1 cnp1) (.bool gdp1) (.slice Adp1 ndp1 cdp1) 28
  have b2 := (Below.refl w1.heap.size w1).alloc (Nat.le_refl _) (.cells #[.bool gnp1, .slice Anp1 nnp1 cnp1, .bool gdp1, .slice Adp1 ndp1 cdp1] 28)
  have hb2 := bp1.trans (b2.mono bp1.size)
  have R2 := R0.after hb2
  have B2 := B0.trans (hb2.mono B0.size)
  have Jr := ip1.below b2
  clear p0 p1 q0 q1 P0 Q0 R0 B0 HO bp1 ip1 hb2 b2
  have ⟨t0, t1, t2, t3, _⟩ := T2
  have ⟨r0, r1, r2, r3, k0, k1, k2, k3, _⟩ := R2
  generalize hW : w1.alloc (.cells #[.bool gnp1, .slice Anp1 nnp1 cnp1, .bool gdp1, .slice Adp1 ndp1 cdp1] 28) = W2 at *
  go_wp2
  try rw [hW]
  clear hW
  refine bodyPost_ret (v := .agg #[.bool gnp1, .slice Anp1 nnp1 cnp1, .bool gdp1, .slice Adp1 ndp1 cdp1]) (by obtain ⟨v0, v1, v2, v3⟩ := R2.set4e (.bool gnp1) (.slice Anp1 nnp1 cnp1) (.bool gdp1) (.slice Adp1 ndp1 cdp1); simp [results, Tryz.results59, go_sem, v0, v1, v2, v3]) rfl ⟨_, _, _, _, _, _, _, _, rfl, Jr.stored4 R2 rfl rfl rfl rfl _ _ _ _, ?_⟩
  exact Below.set4 B2 (by omega) _ _ _ _
set_option maxRecDepth 1000000 in
set_option maxHeartbeats 4000000 in
theorem rqwhole_z (gx : Bool) (Ax : Option Addr) (nx cx : Nat) {z : Int} (w : World) (ha : IsInt w gx Ax nx cx z) :
    Calls Tryz.prog 28 #[.agg #[.bool gx, .slice Ax nx cx]] w (RetRat w (z : Rat)) := by
  have b0 := (Below.refl w.heap.size w).alloc (Nat.le_refl _) (.cells #[.bool gx, .slice Ax nx cx] 26)
  have B0 := b0.alloc b0.size (.cells #[.bool false, .slice none 0 0, .bool false, .slice none 0 0] 28)
  have X0 := (Slot2.new w (.bool gx) (.slice Ax nx cx) 26).alloc (.cells #[.bool false, .slice none 0 0, .bool false, .slice none 0 0] 28)
  have R0 := Slot4.new (w.alloc (.cells #[.bool gx, .slice Ax nx cx] 26)) (.bool false) (.slice none 0 0) (.bool false) (.slice none 0 0) 28
  simp only [World.size_alloc] at R0
  have Ix := ha.below B0
  clear ha b0
  go_enter Tryz.func28, Tryz.ntmps28
  go_upto_region 1 with (fail)
  generalize (w.alloc (.cells #[.bool gx, .slice Ax nx cx] 26)).alloc (.cells #[.bool false, .slice none 0 0, .bool false, .slice none 0 0] 28) = W0 at *
  have HS : Hid (∀ V, Below W0.heap.size W0 V → V.cell? ⟨w.heap.size, 0, none⟩ = some (.bool gx) ∧ V.cell? ⟨w.heap.size, 1, none⟩ = some (.slice Ax nx cx)) := fun V hV => ⟨(X0.after hV).1, (X0.after hV).2.1⟩
  have Dp0 : Below W0.heap.size W0 W0.drew := (Below.refl _ _).drew
  refine wp_region_seq (.pre [(0, true), (1, false), (2, true), (3, false)] .done) (fun W => W.cell? ⟨w.heap.size, 0, none⟩ = some (.bool gx) ∧ W.cell? ⟨w.heap.size, 1, none⟩ = some (.slice Ax nx cx)) (by kernel_rfl) (by kernel_rfl) ?_ (by kernel_rfl) (HS.out _ Dp0) ?_
  · refine chk_pre _ _ _ (by as_aux_lemma => kernel_rfl) ?_
    exact (by as_aux_lemma => kernel_rfl)
  refine seq_take _ ?_ rfl (Or.inl ⟨by rfl, ?_⟩) ?_
  rotate_left
  · (intro w hSw; (try dsimp only at hSw); go_simp; (try with_reducible rfl))
  try simp only [Act.put, List.setIfInBounds_toArray, List.set_cons_zero, List.set_cons_succ]
  refine seq_one _ rfl fun K hK => ?_
  go_simp
  (with_reducible refine (rof_any 1 _ (by decide) (by decide)).mono ?_)
  rintro e vp1 ⟨gp1, Ap1, np1, cp1, rfl, ip1, bp1⟩
  have Dp1 : Below W0.heap.size W0 vp1 := Below.trans Dp0 (bp1.mono (Below.size Dp0))
  go_wp2_with fail
  refine hK.out _ _ (HS.out _ Dp1) (fun hHeld => ?_)
  clear hK K hHeld
  try simp only [Act.put, List.setIfInBounds_toArray, List.set_cons_zero, List.set_cons_succ]
  refine seq_take _ ?_ rfl (Or.inl ⟨by rfl, ?_⟩) ?_
  rotate_left
  · (intro w hSw; (try dsimp only at hSw); go_simp; (try with_reducible rfl))
  try simp only [Act.put, List.setIfInBounds_toArray, List.set_cons_zero, List.set_cons_succ]
  refine seq_one _ rfl fun K hK => ?_
  have R1 := R0.after Dp1
  have ⟨r0, r1, r2, r3, k0, k1, k2, k3, _⟩ := R1
  go_simp
  refine hK.out _ _ (⟨((X0.after Dp1).far4 (by omega) _ _ _ _).1, ((X0.after Dp1).far4 (by omega) _ _ _ _).2.1⟩) (fun hHeld => ?_)
  clear hK K hHeld
  try simp only [Act.put, List.setIfInBounds_toArray, List.set_cons_zero, List.set_cons_succ]
  refine NoPanic.normal ?_
  go_wp2
  have hs := R0.after Dp1
  refine bodyPost_ret (v := .agg #[.bool gx, .slice Ax nx cx, .bool gp1, .slice Ap1 np1 cp1]) (by obtain ⟨v0, v1, v2, v3⟩ := hs.set4e (.bool gx) (.slice Ax nx cx) (.bool gp1) (.slice Ap1 np1 cp1); simp [results, Tryz.results28, go_sem, v0, v1, v2, v3]) rfl ⟨_, _, _, _, _, _, _, _, rfl, ⟨(Ix.below Dp1).stored4 hs rfl rfl rfl rfl _ _ _ _, ip1.stored4 hs rfl rfl rfl rfl _ _ _ _⟩, ?_⟩
  exact Below.set4 (B0.trans (Dp1.mono B0.size)) (by omega) _ _ _ _
set_option maxRecDepth 1000000 in
set_option maxHeartbeats 4000000 in
theorem rqnumber_z (n : Int) (w : World) (h1 : -9223372036854775808 ≤ n) (h2 : n ≤ 9223372036854775807) :
    Calls Tryz.prog 45 #[.int .i64 n] w (RetRat w (n : Rat)) := by
  have B0 := (Below.refl w.heap.size w).alloc (Nat.le_refl _) (.cells #[.bool false, .slice none 0 0, .bool false, .slice none 0 0] 28)
  have R0 := Slot4.new w (.bool false) (.slice none 0 0) (.bool false) (.slice none 0 0) 28
  go_enter Tryz.func45, Tryz.ntmps45
  go_wp2_with fail
  (with_reducible refine (rof_any n _ h1 h2).mono ?_)
  rintro e w1 ⟨gp1, Ap1, np1, cp1, rfl, ip1, bp1⟩
  have R1 := R0.after bp1
  have B1 := B0.trans (bp1.mono B0.size)
  clear R0 B0 bp1
  go_wp2_with fail
  (with_reducible refine (rqwhole_z gp1 Ap1 np1 cp1 _ ip1).mono ?_)
  rintro e w2 ⟨gnp2, Anp2, nnp2, cnp2, gdp2, Adp2, ndp2, cdp2, rfl, ip2, bp2⟩
  have R2 := R1.after bp2
  have B2 := B1.trans (bp2.mono B1.size)
  clear R1 B1 bp2 ip1
  have ⟨r0, r1, r2, r3, k0, k1, k2, k3, _⟩ := R2
  go_wp2
  refine bodyPost_ret (v := .agg #[.bool gnp2, .slice Anp2 nnp2 cnp2, .bool gdp2, .slice Adp2 ndp2 cdp2]) (by obtain ⟨v0, v1, v2, v3⟩ := R2.set4e (.bool gnp2) (.slice Anp2 nnp2 cnp2) (.bool gdp2) (.slice Adp2 ndp2 cdp2); simp [results, Tryz.results45, go_sem, v0, v1, v2, v3]) rfl ⟨_, _, _, _, _, _, _, _, rfl, ip2.stored4 R2 rfl rfl rfl rfl _ _ _ _, ?_⟩
  exact Below.set4 B2 (by omega) _ _ _ _
set_option maxRecDepth 1000000 in
set_option maxHeartbeats 4000000 in
theorem rqmade_z (n d : Int) (w : World) (h1 : -9223372036854775808 ≤ n) (h2 : n ≤ 9223372036854775807) (h3 : -9223372036854775808 ≤ d) (h4 : d ≤ 9223372036854775807) (h0 : d ≠ 0) :
    Calls Tryz.prog 46 #[.int .i64 n, .int .i64 d] w (RetRat w (Rat.divInt n d)) := by
  have B0 := (Below.refl w.heap.size w).alloc (Nat.le_refl _) (.cells #[.bool false, .slice none 0 0, .bool false, .slice none 0 0] 28)
  have R0 := Slot4.new w (.bool false) (.slice none 0 0) (.bool false) (.slice none 0 0) 28
  have hd0 : (d == 0) = false := by simpa using h0
  have zn : Sz 2 n := Sz.of (by omega) (by decide)
  have zd : Sz 2 d := Sz.of (by omega) (by decide)
  have HD := Lib.hid h0
  have H12 := Lib.hid (And.intro h1 h2)
  have H34 := Lib.hid (And.intro h3 h4)
  clear h0 h1 h2 h3 h4
  go_enter Tryz.func46, Tryz.ntmps46
  go_wp2_with fail
  (with_reducible refine (rof_any n _ H12.out.1 H12.out.2).mono ?_)
  rintro e w1 ⟨gp1, Ap1, np1, cp1, rfl, ip1, bp1⟩
  have R1 := R0.after bp1
  have B1 := B0.trans (bp1.mono B0.size)
  clear R0 B0 bp1
  go_wp2_with fail
  (with_reducible refine (rof_any d _ H34.out.1 H34.out.2).mono ?_)
  rintro e w2 ⟨gp2, Ap2, np2, cp2, rfl, ip2, bp2⟩
  have R2 := R1.after bp2
  have B2 := B1.trans (bp2.mono B1.size)
  have jp1 := ip1.below bp2
  clear R1 B1 bp2 ip1
  go_wp2_with fail
  (with_reducible refine (rqofd_z gp1 Ap1 np1 cp1 gp2 Ap2 np2 cp2 _ jp1 ip2 zn zd (by decide) HD.out).mono ?_)
  rintro e w3 ⟨gnp3, Anp3, nnp3, cnp3, gdp3, Adp3, ndp3, cdp3, rfl, ip3, bp3⟩
  have R3 := R2.after bp3
  have B3 := B2.trans (bp3.mono B2.size)
  clear R2 B2 bp3 jp1 ip2
  have ⟨r0, r1, r2, r3, k0, k1, k2, k3, _⟩ := R3
  go_wp2
  refine bodyPost_ret (v := .agg #[.bool gnp3, .slice Anp3 nnp3 cnp3, .bool gdp3, .slice Adp3 ndp3 cdp3]) (by obtain ⟨v0, v1, v2, v3⟩ := R3.set4e (.bool gnp3) (.slice Anp3 nnp3 cnp3) (.bool gdp3) (.slice Adp3 ndp3 cdp3); simp [results, Tryz.results46, go_sem, v0, v1, v2, v3]) rfl ⟨_, _, _, _, _, _, _, _, rfl, ip3.stored4 R3 rfl rfl rfl rfl _ _ _ _, ?_⟩
  exact Below.set4 B3 (by omega) _ _ _ _
set_option maxRecDepth 1000000 in
set_option maxHeartbeats 4000000 in
theorem rqsame_z (gxn : Bool) (Axn : Option Addr) (nxn cxn : Nat) (gxd : Bool) (Axd : Option Addr) (nxd cxd : Nat) (gyn : Bool) (Ayn : Option Addr) (nyn cyn : Nat) (gyd : Bool) (Ayd : Option Addr) (nyd cyd : Nat) {a b : Rat} (w : World) (ha : IsRat w gxn Axn nxn cxn gxd Axd nxd cxd a) (hb : IsRat w gyn Ayn nyn cyn gyd Ayd nyd cyd b) (h : a = b) :
    Calls Tryz.prog 16 #[.agg #[.bool gxn, .slice Axn nxn cxn, .bool gxd, .slice Axd nxd cxd], .agg #[.bool gyn, .slice Ayn nyn cyn, .bool gyd, .slice Ayd nyd cyd]] w fun e w' => e = .returned (.bool true) ∧ Below w.heap.size w w' := by
  obtain ⟨B0, X0, Y0⟩ := frameQ2p w (.bool gxn) (.slice Axn nxn cxn) (.bool gxd) (.slice Axd nxd cxd) (.bool gyn) (.slice Ayn nyn cyn) (.bool gyd) (.slice Ayd nyd cyd) 28 28
  have Ix := ha.below B0
  have Iy := hb.below B0
  clear ha hb
  have ⟨x0, x1, x2, x3, _⟩ := X0
  have ⟨y0, y1, y2, y3, _⟩ := Y0
  go_enter Tryz.func16, Tryz.ntmps16
  go_wp2_with fail
  (with_reducible refine (same_v gxn gyn Axn Ayn nxn cxn nyn cyn _ true Ix.num Iy.num (by rw [h]; simp)).mono ?_)
  rintro e w1 ⟨rfl, bp1⟩
  have ⟨x0', x1', x2', x3', _⟩ := X0.after bp1
  have ⟨y0', y1', y2', y3', _⟩ := Y0.after bp1
  have Jx := Ix.below bp1
  have Jy := Iy.below bp1
  clear x0 x1 x2 x3 y0 y1 y2 y3 Ix Iy
  go_wp2_with fail
  (with_reducible refine (same_v gxd gyd Axd Ayd nxd cxd nyd cyd _ true Jx.den Jy.den (by rw [h]; simp)).mono ?_)
  rintro e w2 ⟨rfl, bp2⟩
  go_wp2
  go_ret
  exact ⟨rfl, (B0.trans (bp1.mono B0.size)).trans (bp2.mono (B0.trans (bp1.mono B0.size)).size)⟩
set_option maxRecDepth 1000000 in
set_option maxHeartbeats 4000000 in
theorem rqsame_n (gxn : Bool) (Axn : Option Addr) (nxn cxn : Nat) (gxd : Bool) (Axd : Option Addr) (nxd cxd : Nat) (gyn : Bool) (Ayn : Option Addr) (nyn cyn : Nat) (gyd : Bool) (Ayd : Option Addr) (nyd cyd : Nat) {a b : Rat} (w : World) (ha : IsRat w gxn Axn nxn cxn gxd Axd nxd cxd a) (hb : IsRat w gyn Ayn nyn cyn gyd Ayd nyd cyd b) (h : a.num ≠ b.num) :
    Calls Tryz.prog 16 #[.agg #[.bool gxn, .slice Axn nxn cxn, .bool gxd, .slice Axd nxd cxd], .agg #[.bool gyn, .slice Ayn nyn cyn, .bool gyd, .slice Ayd nyd cyd]] w fun e w' => e = .returned (.bool false) ∧ Below w.heap.size w w' := by
  obtain ⟨B0, X0, Y0⟩ := frameQ2p w (.bool gxn) (.slice Axn nxn cxn) (.bool gxd) (.slice Axd nxd cxd) (.bool gyn) (.slice Ayn nyn cyn) (.bool gyd) (.slice Ayd nyd cyd) 28 28
  have Ix := ha.below B0
  have Iy := hb.below B0
  clear ha hb
  have ⟨x0, x1, x2, x3, _⟩ := X0
  have ⟨y0, y1, y2, y3, _⟩ := Y0
  go_enter Tryz.func16, Tryz.ntmps16
  go_wp2_with fail
  (with_reducible refine (same_v gxn gyn Axn Ayn nxn cxn nyn cyn _ false Ix.num Iy.num (by simpa using h)).mono ?_)
  rintro e w1 ⟨rfl, bp1⟩
  go_wp2
  go_ret
  exact ⟨rfl, B0.trans (bp1.mono B0.size)⟩
set_option maxRecDepth 1000000 in
set_option maxHeartbeats 4000000 in
theorem rqsame_d (gxn : Bool) (Axn : Option Addr) (nxn cxn : Nat) (gxd : Bool) (Axd : Option Addr) (nxd cxd : Nat) (gyn : Bool) (Ayn : Option Addr) (nyn cyn : Nat) (gyd : Bool) (Ayd : Option Addr) (nyd cyd : Nat) {a b : Rat} (w : World) (ha : IsRat w gxn Axn nxn cxn gxd Axd nxd cxd a) (hb : IsRat w gyn Ayn nyn cyn gyd Ayd nyd cyd b) (h : a.num = b.num) (h2 : (a.den : Int) ≠ b.den) :
    Calls Tryz.prog 16 #[.agg #[.bool gxn, .slice Axn nxn cxn, .bool gxd, .slice Axd nxd cxd], .agg #[.bool gyn, .slice Ayn nyn cyn, .bool gyd, .slice Ayd nyd cyd]] w fun e w' => e = .returned (.bool false) ∧ Below w.heap.size w w' := by
  obtain ⟨B0, X0, Y0⟩ := frameQ2p w (.bool gxn) (.slice Axn nxn cxn) (.bool gxd) (.slice Axd nxd cxd) (.bool gyn) (.slice Ayn nyn cyn) (.bool gyd) (.slice Ayd nyd cyd) 28 28
  have Ix := ha.below B0
  have Iy := hb.below B0
  clear ha hb
  have ⟨x0, x1, x2, x3, _⟩ := X0
  have ⟨y0, y1, y2, y3, _⟩ := Y0
  go_enter Tryz.func16, Tryz.ntmps16
  go_wp2_with fail
  (with_reducible refine (same_v gxn gyn Axn Ayn nxn cxn nyn cyn _ true Ix.num Iy.num (by simpa using h)).mono ?_)
  rintro e w1 ⟨rfl, bp1⟩
  have ⟨x0', x1', x2', x3', _⟩ := X0.after bp1
  have ⟨y0', y1', y2', y3', _⟩ := Y0.after bp1
  have Jx := Ix.below bp1
  have Jy := Iy.below bp1
  clear x0 x1 x2 x3 y0 y1 y2 y3 Ix Iy
  go_wp2_with fail
  (with_reducible refine (same_v gxd gyd Axd Ayd nxd cxd nyd cyd _ false Jx.den Jy.den (by simpa using h2)).mono ?_)
  rintro e w2 ⟨rfl, bp2⟩
  go_wp2
  go_ret
  exact ⟨rfl, (B0.trans (bp1.mono B0.size)).trans (bp2.mono (B0.trans (bp1.mono B0.size)).size)⟩
theorem rqsame_v (gxn : Bool) (Axn : Option Addr) (nxn cxn : Nat) (gxd : Bool) (Axd : Option Addr) (nxd cxd : Nat) (gyn : Bool) (Ayn : Option Addr) (nyn cyn : Nat) (gyd : Bool) (Ayd : Option Addr) (nyd cyd : Nat) {a b : Rat} (w : World) (v : Bool) (ha : IsRat w gxn Axn nxn cxn gxd Axd nxd cxd a) (hb : IsRat w gyn Ayn nyn cyn gyd Ayd nyd cyd b) (h : v = decide (a = b)) :
    Calls Tryz.prog 16 #[.agg #[.bool gxn, .slice Axn nxn cxn, .bool gxd, .slice Axd nxd cxd], .agg #[.bool gyn, .slice Ayn nyn cyn, .bool gyd, .slice Ayd nyd cyd]] w fun e w' => e = .returned (.bool v) ∧ Below w.heap.size w w' := by
  subst h
  by_cases h : a = b
  · rw [decide_eq_true h]; exact rqsame_z gxn Axn nxn cxn gxd Axd nxd cxd gyn Ayn nyn cyn gyd Ayd nyd cyd w ha hb h
  · rw [decide_eq_false h]
    by_cases h1 : a.num = b.num
    · exact rqsame_d gxn Axn nxn cxn gxd Axd nxd cxd gyn Ayn nyn cyn gyd Ayd nyd cyd w ha hb h1 (fun h2 => h (q_ext a b h1 h2))
    · exact rqsame_n gxn Axn nxn cxn gxd Axd nxd cxd gyn Ayn nyn cyn gyd Ayd nyd cyd w ha hb h1
end Go.Proofs.YtlpoboikompjfaaGreatDoor
