/- GcmParts, as it is asked. Conditions: none but those of the statement itself. -/
import Derived.Test.YtlihfdbfcklkmaaLF
import Derived.Test.YtlihfdbfcklkmaaE26
import Derived.Test.YtlihfdbfcklkmaaW2
set_option linter.unusedVariables false
set_option linter.unusedSimpArgs false
namespace Go.Proofs.Ytlihfdbfcklkmaa
open Go.ChangeShapes Go.WideShapes Go.ChangeAt Go.RowKit Go.Proofs.Ytlihfdbfcklkmaa.Pad Go.Proofs.Ytlihfdbfcklkmaa.Pad.Gc
set_option maxRecDepth 100000 in
theorem liftedGcmParts (os : Os) (started : os.Started) (H : Type) (enc : TypeId × Value → H) :
    ReturnsInHanded {} Try.checked os 7 .any (Rows.gcmPartsSpec.pre6 enc Try.prog Try.f7 Rows.gcmPartsRow.domain false) (Rows.gcmPartsSpec.post enc Try.prog Try.f7 false true false false) := by
  refine returnsInHanded_of_change (C := Try.checked) own started (by kernel_rfl) Try.func7
    (ChangeSpec.witness6 (enc := enc) (C := Try.checked) false ⟨#[], #[.agg #[.int .u8 0, .int .u8 0, .int .u8 0, .int .u8 0, .int .u8 0, .int .u8 0, .int .u8 0, .int .u8 0, .int .u8 0, .int .u8 0, .int .u8 0, .int .u8 0, .int .u8 0, .int .u8 0, .int .u8 0, .int .u8 0], .agg #[.string ByteArray.empty, .string ByteArray.empty, .string ByteArray.empty], .int .u32 0], []⟩ 8 (by kernel_rfl) (by kernel_rfl) (by kernel_rfl) (by kernel_rfl)) ?_
  intro W base args ds gs before hval0 hW hcnd _
  have hval : ∀ (j : Nat) t v, Try.f7.params[j]? = some t → args[j]? = some v → Value.okWide Try.prog W .any base t v := hval0
  have hW' := hW
  obtain ⟨p, q, hA0, hV, rfl, hfz, hnd⟩ := hW
  have hA : DataW.TrodAll enc Try.prog W 0 (fun _ => true) true Try.f7.params.toList args.toList ds p := hA0
  rw [Try.params7] at hA hval
  obtain ⟨v0, vs0, d0, ds0, p0, q0, hargs, rfl, rfl, h0, r0⟩ := trodAll_cons hA
  obtain ⟨v1, vs1, d1, ds1, p1, q1, rfl, rfl, rfl, h1, r1⟩ := trodAll_cons r0
  obtain ⟨v2, vs2, d2, ds2, p2, q2, rfl, rfl, rfl, h2, r2⟩ := trodAll_cons r1
  obtain ⟨rfl, rfl, rfl⟩ := trodAll_nil r2
  obtain rfl : args = #[v0, v1, v2] := by cases args; simp_all
  obtain ⟨rfl, rfl⟩ := trodVars_none hV
  have lt0 := trod_lt' h0
  have lt1 := trod_lt' h1
  have lt2 := trod_lt' h2
  obtain ⟨x0, g0, y0⟩ := arg_rep (hval 0 22 v0 rfl rfl) h0 (by kernel_rfl)
  obtain ⟨x1, g1, y1⟩ := arg_rep (hval 1 24 v1 rfl rfl) h1 (by kernel_rfl)
  obtain ⟨x2, g2, y2⟩ := arg_rep (hval 2 25 v2 rfl rfl) h2 (by kernel_rfl)
  obtain ⟨l0, hm0, rfl⟩ := ty_arr_w8 Try.underlying22 Try.underlying5 (by kernel_rfl) (by kernel_rfl) y0
  obtain ⟨m1, xs1, rfl, hlx1, hx1⟩ := ty_struct Try.underlying24 y1
  obtain ⟨ua1, ub1, uc1, rfl⟩ := list3 (hlx1.trans (by kernel_rfl))
  obtain ⟨a1, ea1, ha1⟩ := tyc_str Try.underlying9 (fld_cell (hx1 _ (List.mem_of_getElem? (i := 0) rfl)) (by kernel_rfl) rfl)
  obtain rfl := one_cell ea1
  obtain ⟨b1, eb1, hb1⟩ := tyc_str Try.underlying9 (fld_cell (hx1 _ (List.mem_of_getElem? (i := 1) rfl)) (by kernel_rfl) rfl)
  obtain rfl := one_cell eb1
  obtain ⟨c1, ec1, hc1⟩ := tyc_str Try.underlying9 (fld_cell (hx1 _ (List.mem_of_getElem? (i := 2) rfl)) (by kernel_rfl) rfl)
  obtain rfl := one_cell ec1
  obtain ⟨n2, rfl, hn2⟩ := ty_int Try.underlying25 y2
  obtain ⟨r2, rfl⟩ := bv_of32 hn2
  refine (calls_of_pf (parts' l0 a1 b1 c1 r2 hm0) (fun p hp => by cases (show p ∈ ([] : List (Nat × List AV)) from hp)) (repL_cons' g0 (repL_cons' g1 (repL_cons' g2 repL_nil')))).mono fun e W' ⟨he, bel⟩ => ?_
  subst he
  exact ⟨_, rfl, _, _, _, [], _, [], hW', trodAll_mk1 (shut_bool Try.underlying4 _), (trodAll_cons_mk (Below.trod laidOut (by kernel_rfl) (of_decide_eq_true (by kernel_rfl)) h0 bel lt0) (trodAll_cons_mk (Below.trod laidOut (by kernel_rfl) (of_decide_eq_true (by kernel_rfl)) h1 bel lt1) (trodAll_cons_mk (Below.trod laidOut (by kernel_rfl) (of_decide_eq_true (by kernel_rfl)) h2 bel lt2) trodAll_mk0))), rfl, bel.frame _, fun h => by cases h⟩
theorem gcmParts : Rows.GcmPartsSaid :=
  OpenClaim.holds_of_wide 7 Try.f7 rfl rfl rfl rfl rfl rfl rfl ⟨rfl, rfl, rfl, rfl, rfl⟩ rfl rfl rfl rfl rfl (by kernel_rfl) Try.func7 (by kernel_rfl)
    (of_decide_eq_true (by kernel_rfl)) (by unfold Func.isWrapper; first | (rw [if_pos (by decide +kernel)]; kernel_rfl) | (rw [if_neg (by decide +kernel)]; exact ⟨rfl, rfl⟩))
    (fun os started H enc _ => liftedGcmParts os started H enc)
end Go.Proofs.Ytlihfdbfcklkmaa

