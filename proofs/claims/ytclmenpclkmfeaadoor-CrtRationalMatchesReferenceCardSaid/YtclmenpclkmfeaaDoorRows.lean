/-
  NARROWER THAN 'FOR EVERY INPUT', by the rows' own cells (each row's printed sentence says how): CrtCombines: laid · CrtOrders: laid · CrtRecovers: laid · CrtRejects: laid · CrtRationalMatchesReference: laid · CrtRationals: laid · CrtFractions: laid.
  DERIVED. THE GIVEN ROWS OF THIS SEAT. 7 by the template 'for every input the law returns true; each argument reads behind the call as it read before'; 0 by the template 'total and deterministic' (their statements: YtclmenpclkmfeaaDoorTotals.lean).
  GIVEN WITH THE SEED: the statements are not yours to turn. If you find one false, say at which input.
  Laid BY PROGRAM, IN A SANDBOX (cutbox-rows.mjs): the forced cells as the released guide's own fill.sh prints them over the translation e73b757d0d1c8bc8… (all of the seat's roots in one cut). By AI agents, Wed Nov 11 2026. No macro, syntax, notation, axiom, sorry.
-/
import Derived.Test.YtclmenpclkmfeaaDoorChecked
import GoSem.Claim
import GoSem.ClaimJoined
import GoSem.ClaimMapViews
import Derived.JoinedTies
import Derived.KernelRfl
namespace Go.Proofs.YtclmenpclkmfeaaDoor
/- THE CELL 'sum', in the pinned program and in every row, IS THE sha256 OF THE DUMP (.gsa) THAT YtclmenpclkmfeaaDoorProg.lean LOADS. Nothing in Lean hashes anything: it is a label: what it is worth is what the hold of that sum in a sandbox is worth. -/
noncomputable def Tryd.pinned : Pinned := { name := "ytclmenpclkmfeaadoor", sum := "e73b757d0d1c8bc86210fadf6106832421db65964517cf08d8480ef615a358eb", checked := Tryd.checked }
namespace Rows
def none {H : Type} : Left H := { results := [], args := [] }

/- WHAT THE LISTED PACKAGE-LEVEL VARIABLES READ AS WHEN THE CALL BEGINS. Each datum BY PROGRAM (the guide's laid-datum.mjs) off the statement by which the dump's own 'gosem.cut.vars' lays the variable. In a bare row this is a premise. The card (YtclmenpclkmfeaaDoorCards.lean) ties it to the program's text. -/
def laid_math_bits_deBruijn64tab {H : Type} : DataW H := .agg [.lit (.int .u8 0), .lit (.int .u8 1), .lit (.int .u8 56), .lit (.int .u8 2), .lit (.int .u8 57), .lit (.int .u8 49), .lit (.int .u8 28), .lit (.int .u8 3), .lit (.int .u8 61), .lit (.int .u8 58), .lit (.int .u8 42), .lit (.int .u8 50), .lit (.int .u8 38), .lit (.int .u8 29), .lit (.int .u8 17), .lit (.int .u8 4), .lit (.int .u8 62), .lit (.int .u8 47), .lit (.int .u8 59), .lit (.int .u8 36), .lit (.int .u8 45), .lit (.int .u8 43), .lit (.int .u8 51), .lit (.int .u8 22), .lit (.int .u8 53), .lit (.int .u8 39), .lit (.int .u8 33), .lit (.int .u8 30), .lit (.int .u8 24), .lit (.int .u8 18), .lit (.int .u8 12), .lit (.int .u8 5), .lit (.int .u8 63), .lit (.int .u8 55), .lit (.int .u8 48), .lit (.int .u8 27), .lit (.int .u8 60), .lit (.int .u8 41), .lit (.int .u8 37), .lit (.int .u8 16), .lit (.int .u8 46), .lit (.int .u8 35), .lit (.int .u8 44), .lit (.int .u8 21), .lit (.int .u8 52), .lit (.int .u8 32), .lit (.int .u8 23), .lit (.int .u8 11), .lit (.int .u8 54), .lit (.int .u8 26), .lit (.int .u8 40), .lit (.int .u8 15), .lit (.int .u8 34), .lit (.int .u8 20), .lit (.int .u8 31), .lit (.int .u8 10), .lit (.int .u8 25), .lit (.int .u8 14), .lit (.int .u8 19), .lit (.int .u8 9), .lit (.int .u8 13), .lit (.int .u8 8), .lit (.int .u8 7), .lit (.int .u8 6)]
def laid_torsion_modular_bases {H : Type} : DataW H := .agg [.lit (.int .u64 2), .lit (.int .u64 3), .lit (.int .u64 5), .lit (.int .u64 7)]

/-- 'torsionlaw04.CrtCombines': WHATEVER THE INPUT: true; the input reads as it did. -/
def crtCombinesSpec : ChangeSpec := { name := "crtCombines", fn := fun _ => fun
  | [d] => { results := [.lit (.bool true)], args := [d] }
  | _ => none }
def crtCombinesRow : OpenClaim := { program := "ytclmenpclkmfeaadoor", sum := "e73b757d0d1c8bc86210fadf6106832421db65964517cf08d8480ef615a358eb", func := "torsion/torsionlaw04.CrtCombines", spec := "crtCombines", unfollowed := true, recurses := true, named := ["torsion/modular.bases", "math/bits.deBruijn64tab"], apart := false, laid := [("math/bits.deBruijn64tab", laid_math_bits_deBruijn64tab), ("torsion/modular.bases", laid_torsion_modular_bases)] }
def CrtCombinesSaid : Prop := crtCombinesRow.holds Tryd.pinned (OpenSpec.ofChange crtCombinesSpec)

/-- ITS FALSE NEIGHBOUR: 'it returns false'. Refute it at one input. -/
def crtCombinesWrong : ChangeSpec := { name := "crtCombines", fn := fun _ => fun
  | [d] => { results := [.lit (.bool false)], args := [d] }
  | _ => none }
def CrtCombinesWrongFalsely : Prop := crtCombinesRow.holds Tryd.pinned (OpenSpec.ofChange crtCombinesWrong)

/-- 'torsionlaw04.CrtOrders': WHATEVER THE INPUT: true; the input reads as it did. -/
def crtOrdersSpec : ChangeSpec := { name := "crtOrders", fn := fun _ => fun
  | [d1, d2] => { results := [.lit (.bool true)], args := [d1, d2] }
  | _ => none }
def crtOrdersRow : OpenClaim := { program := "ytclmenpclkmfeaadoor", sum := "e73b757d0d1c8bc86210fadf6106832421db65964517cf08d8480ef615a358eb", func := "torsion/torsionlaw04.CrtOrders", spec := "crtOrders", unfollowed := true, recurses := true, named := ["torsion/modular.bases", "math/bits.deBruijn64tab"], apart := false, laid := [("math/bits.deBruijn64tab", laid_math_bits_deBruijn64tab), ("torsion/modular.bases", laid_torsion_modular_bases)] }
def CrtOrdersSaid : Prop := crtOrdersRow.holds Tryd.pinned (OpenSpec.ofChange crtOrdersSpec)

/-- ITS FALSE NEIGHBOUR: 'it returns false'. Refute it at one input. -/
def crtOrdersWrong : ChangeSpec := { name := "crtOrders", fn := fun _ => fun
  | [d1, d2] => { results := [.lit (.bool false)], args := [d1, d2] }
  | _ => none }
def CrtOrdersWrongFalsely : Prop := crtOrdersRow.holds Tryd.pinned (OpenSpec.ofChange crtOrdersWrong)

/-- 'torsionlaw04.CrtRecovers': WHATEVER THE INPUT: true; the input reads as it did. -/
def crtRecoversSpec : ChangeSpec := { name := "crtRecovers", fn := fun _ => fun
  | [d1, d2, d3] => { results := [.lit (.bool true)], args := [d1, d2, d3] }
  | _ => none }
def crtRecoversRow : OpenClaim := { program := "ytclmenpclkmfeaadoor", sum := "e73b757d0d1c8bc86210fadf6106832421db65964517cf08d8480ef615a358eb", func := "torsion/torsionlaw04.CrtRecovers", spec := "crtRecovers", unfollowed := true, recurses := true, named := ["torsion/modular.bases", "math/bits.deBruijn64tab"], apart := false, laid := [("math/bits.deBruijn64tab", laid_math_bits_deBruijn64tab), ("torsion/modular.bases", laid_torsion_modular_bases)] }
def CrtRecoversSaid : Prop := crtRecoversRow.holds Tryd.pinned (OpenSpec.ofChange crtRecoversSpec)

/-- ITS FALSE NEIGHBOUR: 'it returns false'. Refute it at one input. -/
def crtRecoversWrong : ChangeSpec := { name := "crtRecovers", fn := fun _ => fun
  | [d1, d2, d3] => { results := [.lit (.bool false)], args := [d1, d2, d3] }
  | _ => none }
def CrtRecoversWrongFalsely : Prop := crtRecoversRow.holds Tryd.pinned (OpenSpec.ofChange crtRecoversWrong)

/-- 'torsionlaw04.CrtRejects': WHATEVER THE INPUT: true; the input reads as it did. -/
def crtRejectsSpec : ChangeSpec := { name := "crtRejects", fn := fun _ => fun
  | [d1, d2, d3] => { results := [.lit (.bool true)], args := [d1, d2, d3] }
  | _ => none }
def crtRejectsRow : OpenClaim := { program := "ytclmenpclkmfeaadoor", sum := "e73b757d0d1c8bc86210fadf6106832421db65964517cf08d8480ef615a358eb", func := "torsion/torsionlaw04.CrtRejects", spec := "crtRejects", unfollowed := true, recurses := true, named := ["torsion/modular.bases", "math/bits.deBruijn64tab"], apart := false, laid := [("math/bits.deBruijn64tab", laid_math_bits_deBruijn64tab), ("torsion/modular.bases", laid_torsion_modular_bases)] }
def CrtRejectsSaid : Prop := crtRejectsRow.holds Tryd.pinned (OpenSpec.ofChange crtRejectsSpec)

/-- ITS FALSE NEIGHBOUR: 'it returns false'. Refute it at one input. -/
def crtRejectsWrong : ChangeSpec := { name := "crtRejects", fn := fun _ => fun
  | [d1, d2, d3] => { results := [.lit (.bool false)], args := [d1, d2, d3] }
  | _ => none }
def CrtRejectsWrongFalsely : Prop := crtRejectsRow.holds Tryd.pinned (OpenSpec.ofChange crtRejectsWrong)

/-- 'torsionlaw04.CrtRationalMatchesReference': WHATEVER THE INPUT: true; the input reads as it did. -/
def crtRationalMatchesReferenceSpec : ChangeSpec := { name := "crtRationalMatchesReference", fn := fun _ => fun
  | [d1, d2] => { results := [.lit (.bool true)], args := [d1, d2] }
  | _ => none }
def crtRationalMatchesReferenceRow : OpenClaim := { program := "ytclmenpclkmfeaadoor", sum := "e73b757d0d1c8bc86210fadf6106832421db65964517cf08d8480ef615a358eb", func := "torsion/torsionlaw04.CrtRationalMatchesReference", spec := "crtRationalMatchesReference", unfollowed := true, recurses := true, named := ["torsion/modular.bases", "math/bits.deBruijn64tab"], apart := false, laid := [("math/bits.deBruijn64tab", laid_math_bits_deBruijn64tab), ("torsion/modular.bases", laid_torsion_modular_bases)] }
def CrtRationalMatchesReferenceSaid : Prop := crtRationalMatchesReferenceRow.holds Tryd.pinned (OpenSpec.ofChange crtRationalMatchesReferenceSpec)

/-- ITS FALSE NEIGHBOUR: 'it returns false'. Refute it at one input. -/
def crtRationalMatchesReferenceWrong : ChangeSpec := { name := "crtRationalMatchesReference", fn := fun _ => fun
  | [d1, d2] => { results := [.lit (.bool false)], args := [d1, d2] }
  | _ => none }
def CrtRationalMatchesReferenceWrongFalsely : Prop := crtRationalMatchesReferenceRow.holds Tryd.pinned (OpenSpec.ofChange crtRationalMatchesReferenceWrong)

/-- 'torsionlaw04.CrtRationals': WHATEVER THE INPUT: true; the input reads as it did. -/
def crtRationalsSpec : ChangeSpec := { name := "crtRationals", fn := fun _ => fun
  | [d1, d2] => { results := [.lit (.bool true)], args := [d1, d2] }
  | _ => none }
def crtRationalsRow : OpenClaim := { program := "ytclmenpclkmfeaadoor", sum := "e73b757d0d1c8bc86210fadf6106832421db65964517cf08d8480ef615a358eb", func := "torsion/torsionlaw04.CrtRationals", spec := "crtRationals", unfollowed := true, recurses := true, named := ["torsion/modular.bases", "math/bits.deBruijn64tab"], apart := false, laid := [("math/bits.deBruijn64tab", laid_math_bits_deBruijn64tab), ("torsion/modular.bases", laid_torsion_modular_bases)] }
def CrtRationalsSaid : Prop := crtRationalsRow.holds Tryd.pinned (OpenSpec.ofChange crtRationalsSpec)

/-- ITS FALSE NEIGHBOUR: 'it returns false'. Refute it at one input. -/
def crtRationalsWrong : ChangeSpec := { name := "crtRationals", fn := fun _ => fun
  | [d1, d2] => { results := [.lit (.bool false)], args := [d1, d2] }
  | _ => none }
def CrtRationalsWrongFalsely : Prop := crtRationalsRow.holds Tryd.pinned (OpenSpec.ofChange crtRationalsWrong)

/-- 'torsionlaw04.CrtFractions': WHATEVER THE INPUT: true; the input reads as it did. -/
def crtFractionsSpec : ChangeSpec := { name := "crtFractions", fn := fun _ => fun
  | [d1, d2, d3] => { results := [.lit (.bool true)], args := [d1, d2, d3] }
  | _ => none }
def crtFractionsRow : OpenClaim := { program := "ytclmenpclkmfeaadoor", sum := "e73b757d0d1c8bc86210fadf6106832421db65964517cf08d8480ef615a358eb", func := "torsion/torsionlaw04.CrtFractions", spec := "crtFractions", unfollowed := true, recurses := true, named := ["torsion/modular.bases", "math/bits.deBruijn64tab"], apart := false, laid := [("math/bits.deBruijn64tab", laid_math_bits_deBruijn64tab), ("torsion/modular.bases", laid_torsion_modular_bases)] }
def CrtFractionsSaid : Prop := crtFractionsRow.holds Tryd.pinned (OpenSpec.ofChange crtFractionsSpec)

/-- ITS FALSE NEIGHBOUR: 'it returns false'. Refute it at one input. -/
def crtFractionsWrong : ChangeSpec := { name := "crtFractions", fn := fun _ => fun
  | [d1, d2, d3] => { results := [.lit (.bool false)], args := [d1, d2, d3] }
  | _ => none }
def CrtFractionsWrongFalsely : Prop := crtFractionsRow.holds Tryd.pinned (OpenSpec.ofChange crtFractionsWrong)

/- THE SECOND FORM. 'bulk': how many values and letters a reading holds, each counted each time it is reached (what is shared counts as often as it is met; a slice's spare places count too). A statement '..UptoSaid' is the law's where the arguments, and the package variables that the reading takes, are together of bulk at most 1048576: NARROWER than '..Said'. Prove '..Said' where nothing that the law and all that it calls make is longer than what came in: it says more and counts as full. Else prove '..UptoSaid'. A law counts once. -/
mutual
def uptoBulk {H : Type} : DataW H → Nat
  | .lit (.string bytes) => bytes.length + 1
  | .lit _ => 1
  | .nil => 1
  | .ptr d => uptoBulk d + 1
  | .slice elems spare => uptoBulkAll elems + uptoBulkAll spare + 1
  | .agg parts => uptoBulkAll parts + 1
  | .iface _ d => uptoBulk d + 1
  | .map entries => uptoBulkEntries entries + 1
  | .held _ => 1
def uptoBulkAll {H : Type} : List (DataW H) → Nat
  | [] => 0
  | d :: r => uptoBulk d + uptoBulkAll r
def uptoBulkEntries {H : Type} : List (Lit × DataW H) → Nat
  | [] => 0
  | x :: r => uptoBulkEntry x + uptoBulkEntries r
def uptoBulkEntry {H : Type} : Lit × DataW H → Nat
  | (.string bytes, d) => bytes.length + uptoBulk d + 1
  | (_, d) => uptoBulk d + 1
 end
def uptoSmall : (H : Type) → List (DataW H) → Bool := fun _ ds => decide (uptoBulkAll ds ≤ 1048576)
def OpenSpec.upto (s : _root_.Go.ChangeSpec) : _root_.Go.OpenSpec := { _root_.Go.OpenSpec.ofChange s with cond := some uptoSmall }

/-- 'torsionlaw04.CrtCombines', WHERE WHAT IT READS IS OF BULK AT MOST 1048576: true; the input reads as it did. -/
def crtCombinesUptoRow : OpenClaim := { program := "ytclmenpclkmfeaadoor", sum := "e73b757d0d1c8bc86210fadf6106832421db65964517cf08d8480ef615a358eb", func := "torsion/torsionlaw04.CrtCombines", spec := "crtCombines", unfollowed := true, recurses := true, named := ["torsion/modular.bases", "math/bits.deBruijn64tab"], apart := false, laid := [("math/bits.deBruijn64tab", laid_math_bits_deBruijn64tab), ("torsion/modular.bases", laid_torsion_modular_bases)], narrowed := true }
def CrtCombinesUptoSaid : Prop := crtCombinesUptoRow.holds Tryd.pinned (OpenSpec.upto crtCombinesSpec)

/-- 'torsionlaw04.CrtOrders', WHERE WHAT IT READS IS OF BULK AT MOST 1048576: true; the input reads as it did. -/
def crtOrdersUptoRow : OpenClaim := { program := "ytclmenpclkmfeaadoor", sum := "e73b757d0d1c8bc86210fadf6106832421db65964517cf08d8480ef615a358eb", func := "torsion/torsionlaw04.CrtOrders", spec := "crtOrders", unfollowed := true, recurses := true, named := ["torsion/modular.bases", "math/bits.deBruijn64tab"], apart := false, laid := [("math/bits.deBruijn64tab", laid_math_bits_deBruijn64tab), ("torsion/modular.bases", laid_torsion_modular_bases)], narrowed := true }
def CrtOrdersUptoSaid : Prop := crtOrdersUptoRow.holds Tryd.pinned (OpenSpec.upto crtOrdersSpec)

/-- 'torsionlaw04.CrtRecovers', WHERE WHAT IT READS IS OF BULK AT MOST 1048576: true; the input reads as it did. -/
def crtRecoversUptoRow : OpenClaim := { program := "ytclmenpclkmfeaadoor", sum := "e73b757d0d1c8bc86210fadf6106832421db65964517cf08d8480ef615a358eb", func := "torsion/torsionlaw04.CrtRecovers", spec := "crtRecovers", unfollowed := true, recurses := true, named := ["torsion/modular.bases", "math/bits.deBruijn64tab"], apart := false, laid := [("math/bits.deBruijn64tab", laid_math_bits_deBruijn64tab), ("torsion/modular.bases", laid_torsion_modular_bases)], narrowed := true }
def CrtRecoversUptoSaid : Prop := crtRecoversUptoRow.holds Tryd.pinned (OpenSpec.upto crtRecoversSpec)

/-- 'torsionlaw04.CrtRejects', WHERE WHAT IT READS IS OF BULK AT MOST 1048576: true; the input reads as it did. -/
def crtRejectsUptoRow : OpenClaim := { program := "ytclmenpclkmfeaadoor", sum := "e73b757d0d1c8bc86210fadf6106832421db65964517cf08d8480ef615a358eb", func := "torsion/torsionlaw04.CrtRejects", spec := "crtRejects", unfollowed := true, recurses := true, named := ["torsion/modular.bases", "math/bits.deBruijn64tab"], apart := false, laid := [("math/bits.deBruijn64tab", laid_math_bits_deBruijn64tab), ("torsion/modular.bases", laid_torsion_modular_bases)], narrowed := true }
def CrtRejectsUptoSaid : Prop := crtRejectsUptoRow.holds Tryd.pinned (OpenSpec.upto crtRejectsSpec)

/-- 'torsionlaw04.CrtRationalMatchesReference', WHERE WHAT IT READS IS OF BULK AT MOST 1048576: true; the input reads as it did. -/
def crtRationalMatchesReferenceUptoRow : OpenClaim := { program := "ytclmenpclkmfeaadoor", sum := "e73b757d0d1c8bc86210fadf6106832421db65964517cf08d8480ef615a358eb", func := "torsion/torsionlaw04.CrtRationalMatchesReference", spec := "crtRationalMatchesReference", unfollowed := true, recurses := true, named := ["torsion/modular.bases", "math/bits.deBruijn64tab"], apart := false, laid := [("math/bits.deBruijn64tab", laid_math_bits_deBruijn64tab), ("torsion/modular.bases", laid_torsion_modular_bases)], narrowed := true }
def CrtRationalMatchesReferenceUptoSaid : Prop := crtRationalMatchesReferenceUptoRow.holds Tryd.pinned (OpenSpec.upto crtRationalMatchesReferenceSpec)

/-- 'torsionlaw04.CrtRationals', WHERE WHAT IT READS IS OF BULK AT MOST 1048576: true; the input reads as it did. -/
def crtRationalsUptoRow : OpenClaim := { program := "ytclmenpclkmfeaadoor", sum := "e73b757d0d1c8bc86210fadf6106832421db65964517cf08d8480ef615a358eb", func := "torsion/torsionlaw04.CrtRationals", spec := "crtRationals", unfollowed := true, recurses := true, named := ["torsion/modular.bases", "math/bits.deBruijn64tab"], apart := false, laid := [("math/bits.deBruijn64tab", laid_math_bits_deBruijn64tab), ("torsion/modular.bases", laid_torsion_modular_bases)], narrowed := true }
def CrtRationalsUptoSaid : Prop := crtRationalsUptoRow.holds Tryd.pinned (OpenSpec.upto crtRationalsSpec)

/-- 'torsionlaw04.CrtFractions', WHERE WHAT IT READS IS OF BULK AT MOST 1048576: true; the input reads as it did. -/
def crtFractionsUptoRow : OpenClaim := { program := "ytclmenpclkmfeaadoor", sum := "e73b757d0d1c8bc86210fadf6106832421db65964517cf08d8480ef615a358eb", func := "torsion/torsionlaw04.CrtFractions", spec := "crtFractions", unfollowed := true, recurses := true, named := ["torsion/modular.bases", "math/bits.deBruijn64tab"], apart := false, laid := [("math/bits.deBruijn64tab", laid_math_bits_deBruijn64tab), ("torsion/modular.bases", laid_torsion_modular_bases)], narrowed := true }
def CrtFractionsUptoSaid : Prop := crtFractionsUptoRow.holds Tryd.pinned (OpenSpec.upto crtFractionsSpec)

end Rows
end Go.Proofs.YtclmenpclkmfeaaDoor
