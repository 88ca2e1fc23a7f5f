/- The row and the card of CrtRationalMatchesReference, given what its fixed examples return. -/
import Derived.Test.YtclmenpclkmfeaaDoorVRowKitC
import Derived.Test.YtclmenpclkmfeaaDoorVLawCRM
namespace Go.Proofs.YtclmenpclkmfeaaDoor
open Go.ChangeShapes Go.WideShapes Go.ChangeAt Go.RowKit
set_option maxRecDepth 100000 in
theorem cRM_contract (HS : SanC) (H : Type) (enc : TypeId × Value → H) (W : World) (base : Nat) (args : Array Value) (ds gs : List (DataW H)) (before : List MemPlace)
    (hval : ∀ (j : Nat) t v, Tryd.f7.params[j]? = some t → args[j]? = some v → Value.okWide Tryd.prog W .any base t v)
    (hW : DataW.Whole enc Tryd.prog Tryd.f7.params.toList Rows.crtRationalMatchesReferenceSpec.vars false W args.toList ds gs before) (hL : laidMet Tryd.prog Rows.crtRationalMatchesReferenceRow.laid W) :
    Calls Tryd.prog 7 args W fun e W' => ∃ v, e = .returned v ∧ Rows.crtRationalMatchesReferenceSpec.post enc Tryd.prog Tryd.f7 false true false false W args v W' := by
  have hW' := hW
  obtain ⟨p, q, hA0, hV, rfl, hfz, hnd⟩ := hW
  have hA : DataW.TrodAll enc Tryd.prog W 0 (fun _ => true) true Tryd.f7.params.toList args.toList ds p := hA0
  rw [Tryd.params7] at hA hval
  obtain ⟨v0, v1, d0, d1, p0, p1, hargs, rfl, rfl, h0, h1⟩ := trodAll_two hA
  obtain rfl := hargs
  obtain ⟨rfl, rfl⟩ := trodVars_none hV
  obtain ⟨A0, n0, c0, s0, x0, rfl, hx0⟩ := open_cnum (hval 0 45 v0 rfl rfl) h0
  obtain ⟨k1, rfl, _, _, hk1⟩ := open_int Tryd.underlying21 (hval 1 21 v1 rfl rfl) h1
  have hb1 := bounds_i32 hk1
  obtain ⟨hT, h5⟩ := tab_of_laid rfl hL
  clear hA0
  simp only [List.append_nil] at hW'
  have hlt : ∀ x ∈ p0 ++ p1, x.block < W.heap.size := fun x hx => by simpa using hW'.lt x hx
  refine (law_crm HS A0 n0 c0 s0 x0 k1 W hx0 hb1.1 hb1.2 hT h5).mono fun e W' ⟨he, hg⟩ => ?_
  subst he
  have r0 := Below.trod laidOut (by kernel_rfl) (of_decide_eq_true (by kernel_rfl)) h0 hg (fun x hx => hlt x (by simp [hx]))
  have r1 := Below.trod laidOut (by kernel_rfl) (of_decide_eq_true (by kernel_rfl)) h1 hg (fun x hx => hlt x (by simp [hx]))
  exact ⟨_, rfl, ⟨_, _, _, [], _, [], hW', trodAll_mk1 (shut_bool Tryd.underlying4 _), trodAll_mk2 r0 r1, rfl, hg.frame _, fun h => by cases h⟩⟩
theorem cRM_laid_met (os : Os) : laidMet Tryd.prog Rows.crtRationalMatchesReferenceRow.laid ((laidWorldM os).forCall (fun _ _ => 0) ⟨#[], #[.agg #[.slice none 0 0, .bool false], .int .i32 0], []⟩).memory :=
  laidMet_of_run' 8 (by kernel_rfl) (by kernel_rfl)
theorem cRM_reads (os : Os) {H : Type} (enc : TypeId × Value → H) : ∃ places, DataW.whole enc Tryd.prog ((laidWorldM os).forCall (fun _ _ => 0) ⟨#[], #[.agg #[.slice none 0 0, .bool false], .int .i32 0], []⟩).memory Tryd.f7.params.toList Rows.crtRationalMatchesReferenceSpec.vars false (#[.agg #[.slice none 0 0, .bool false], .int .i32 0] : Array Value).toList 8 = some ([.agg [.nil, .lit (.bool false)], .lit (.int .i32 0)], [], places) :=
  ⟨[], by kernel_rfl⟩
set_option maxRecDepth 100000 in
theorem cRM_lifted (HS : SanC) (os : Os) (started : os.Started) (H : Type) (enc : TypeId × Value → H) (F : Stop.Interp) :
    ReturnsInHanded {} Tryd.checked os 7 .any ((OpenSpec.ofChange Rows.crtRationalMatchesReferenceSpec).preRow enc Tryd.prog Tryd.f7 Rows.crtRationalMatchesReferenceRow.domain false Rows.crtRationalMatchesReferenceRow.laid) (((OpenSpec.ofChange Rows.crtRationalMatchesReferenceSpec).at F).post enc Tryd.prog Tryd.f7 false true false false) := by
  obtain ⟨places, hx⟩ := cRM_reads os enc
  refine returnsInHanded_of_row (C := Tryd.checked) (s := OpenSpec.ofChange Rows.crtRationalMatchesReferenceSpec) ownK started (by kernel_rfl) Tryd.func7
    (witness_row_at (enc := enc) (C := Tryd.checked) false (laidWorldM os) #[.agg #[.slice none 0 0, .bool false], .int .i32 0] rfl (by kernel_rfl) (by kernel_rfl) (by kernel_rfl)
      (OpenSpec.preRow_of_cond 8 hx (by kernel_rfl) (fun k hk => by cases hk) (by kernel_rfl) (cRM_laid_met os))) ?_
  intro W base args ds gs before hval hW _ _ _ hL _ _
  exact cRM_contract HS H enc W base args ds gs before hval hW hL
set_option maxRecDepth 100000 in
theorem cRM_said (HS : SanC) : Rows.CrtRationalMatchesReferenceSaid :=
  OpenClaim.holds_of_cond 7 Tryd.f7 rfl rfl rfl rfl rfl rfl rfl ⟨rfl, rfl, rfl, rfl, rfl⟩ rfl rfl rfl rfl rfl (by kernel_rfl) Tryd.func7 (by kernel_rfl)
    (of_decide_eq_true (by kernel_rfl)) (by unfold Func.isWrapper; first | (rw [if_pos (by decide +kernel)]; kernel_rfl) | (rw [if_neg (by decide +kernel)]; exact ⟨rfl, rfl⟩))
    (fun os started H enc _ F => by rw [OpenClaim.pre_eq_preRow]; exact cRM_lifted HS os started H enc F)
theorem cRM_plain (f : FuncId) (fn : Func) (hf : Tryd.pinned.checked.prog.funcNamed "torsion/torsionlaw04.CrtRationalMatchesReference" = some f) (hfn : Tryd.pinned.checked.prog.funcs[f]? = some fn) :
    false = Tryd.pinned.checked.prog.looks [] ∧ ∀ (j : Nat) t, fn.params[j]? = some t → Tryd.pinned.checked.prog.wantsStandIn t = false := by
  obtain rfl : f = 7 := Option.some.inj ((show Tryd.prog.funcNamed "torsion/torsionlaw04.CrtRationalMatchesReference" = some 7 by kernel_rfl).symm.trans hf) |>.symm
  obtain rfl : fn = Tryd.f7 := (Option.some.inj (Tryd.func7.symm.trans hfn)).symm
  refine ⟨by kernel_rfl, fun j t ht => ?_⟩
  rw [Tryd.params7] at ht
  have hm := Array.mem_of_getElem? ht
  simp only [List.mem_toArray, List.mem_cons, List.mem_nil_iff, or_false] at hm
  rcases hm with rfl | rfl
  · exact (show Tryd.prog.wantsStandIn 45 = false by kernel_rfl)
  · exact (show Tryd.prog.wantsStandIn 21 = false by kernel_rfl)
theorem cRM_card (HS : SanC) : Rows.CrtRationalMatchesReferenceCardSaid :=
  Claim7.holds_tied_plain_at .later [] _ _ _ _ (cRM_said HS) (fun _ h => by cases h) (by kernel_rfl) (fun _ h => by cases h) crtRationalMatchesReference_row_tie rfl ⟨rfl, rfl⟩ (by kernel_rfl) rfl cRM_plain (by kernel_rfl)
end Go.Proofs.YtclmenpclkmfeaaDoor
