/- What is added is taken off; by one byte no two sums become one, nor does one by two bytes. Conditions: none but those of the statement itself. -/
import Derived.Test.YtjljeojfomjefaaLF
import Derived.Test.YtjljeojfomjefaaF3
set_option linter.unusedVariables false
set_option linter.unusedSimpArgs false
namespace Go.Proofs.Ytjljeojfomjefaa
open Go.ChangeShapes Go.WideShapes Go.ChangeAt Go.RowKit Go.Proofs.Ytjljeojfomjefaa.Pad
set_option maxRecDepth 100000 in
theorem liftedFnvUndoes (os : Os) (started : os.Started) (H : Type) (enc : TypeId × Value → H) :
    ReturnsInHanded {} Try.checked os 5 .any (Rows.fnvUndoesSpec.pre6 enc Try.prog Try.f5 Rows.fnvUndoesRow.domain false) (Rows.fnvUndoesSpec.post enc Try.prog Try.f5 false true false false) := by
  refine returnsInHanded_of_change (C := Try.checked) own started (by kernel_rfl) Try.func5
    (ChangeSpec.witness6 (enc := enc) (C := Try.checked) false ⟨#[], #[.agg #[.int .u64 0, .int .u64 0], .agg #[.int .u8 0, .int .u8 0]], []⟩ 8 (by kernel_rfl) (by kernel_rfl) (by kernel_rfl) (by kernel_rfl)) ?_
  intro W base args ds gs before hval0 hW hcnd _
  have hval : ∀ (j : Nat) t v, Try.f5.params[j]? = some t → args[j]? = some v → Value.okWide Try.prog W .any base t v := hval0
  have hW' := hW
  obtain ⟨p, q, hA0, hV, rfl, hfz, hnd⟩ := hW
  have hA : DataW.TrodAll enc Try.prog W 0 (fun _ => true) true Try.f5.params.toList args.toList ds p := hA0
  rw [Try.params5] at hA hval
  obtain ⟨v0, vs0, d0, ds0, p0, q0, hargs, rfl, rfl, h0, r0⟩ := trodAll_cons hA
  obtain ⟨v1, vs1, d1, ds1, p1, q1, rfl, rfl, rfl, h1, r1⟩ := trodAll_cons r0
  obtain ⟨rfl, rfl, rfl⟩ := trodAll_nil r1
  obtain rfl : args = #[v0, v1] := by cases args; simp_all
  obtain ⟨rfl, rfl⟩ := trodVars_none hV
  have lt0 := trod_lt' h0
  have lt1 := trod_lt' h1
  obtain ⟨x0, g0, y0⟩ := arg_rep (hval 0 36 v0 rfl rfl) h0 (by kernel_rfl)
  obtain ⟨x1, g1, y1⟩ := arg_rep (hval 1 37 v1 rfl rfl) h1 (by kernel_rfl)
  obtain ⟨l0, hm0, rfl, hl0⟩ := ty_arr_ints Try.underlying36 Try.underlying22 (by kernel_rfl) (by kernel_rfl) y0
  obtain ⟨a0, b0, rfl⟩ := list2 hm0
  obtain ⟨ra0, rfl⟩ := bv_of64 (hl0 a0 (by simp))
  obtain ⟨rb0, rfl⟩ := bv_of64 (hl0 b0 (by simp))
  obtain ⟨l1, hm1, rfl, hl1⟩ := ty_arr_ints Try.underlying37 Try.underlying5 (by kernel_rfl) (by kernel_rfl) y1
  obtain ⟨a1, b1, rfl⟩ := list2 hm1
  obtain ⟨ba1, rfl⟩ := byte_of8 (hl1 a1 (by simp))
  obtain ⟨bb1, rfl⟩ := byte_of8 (hl1 b1 (by simp))
  refine (calls_of_pf (undoes_pf ra0 rb0 ba1 bb1) (repL_cons' g0 (repL_cons' g1 repL_nil'))).mono fun e W' ⟨he, bel⟩ => ?_
  subst he
  exact ⟨_, rfl, _, _, _, [], _, [], hW', trodAll_mk1 (shut_bool Try.underlying4 _), (trodAll_cons_mk (Below.trod laidOut (by kernel_rfl) (of_decide_eq_true (by kernel_rfl)) h0 bel lt0) (trodAll_cons_mk (Below.trod laidOut (by kernel_rfl) (of_decide_eq_true (by kernel_rfl)) h1 bel lt1) trodAll_mk0)), rfl, bel.frame _, fun h => by cases h⟩
theorem fnvUndoes : Rows.FnvUndoesSaid :=
  OpenClaim.holds_of_wide 5 Try.f5 rfl rfl rfl rfl rfl rfl rfl ⟨rfl, rfl, rfl, rfl, rfl⟩ rfl rfl rfl rfl rfl (by kernel_rfl) Try.func5 (by kernel_rfl)
    (of_decide_eq_true (by kernel_rfl)) (by unfold Func.isWrapper; first | (rw [if_pos (by decide +kernel)]; kernel_rfl) | (rw [if_neg (by decide +kernel)]; exact ⟨rfl, rfl⟩))
    (fun os started H enc _ => liftedFnvUndoes os started H enc)
end Go.Proofs.Ytjljeojfomjefaa

