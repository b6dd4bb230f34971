/- EntryLooks, as it is asked. Conditions: none but those of the statement itself. -/
import Derived.Test.YtbikpgaiocjnoaaLF
import Derived.Test.YtbikpgaiocjnoaaE26
import Derived.Test.YtbikpgaiocjnoaaX9
set_option linter.unusedVariables false
set_option linter.unusedSimpArgs false
namespace Go.Proofs.Ytbikpgaiocjnoaa
open Go.ChangeShapes Go.WideShapes Go.ChangeAt Go.RowKit Go.Proofs.Ytbikpgaiocjnoaa.Pad Go.Proofs.Ytbikpgaiocjnoaa.Pad.En
set_option maxRecDepth 100000 in
theorem liftedEntryLooks (os : Os) (started : os.Started) (H : Type) (enc : TypeId × Value → H) :
    ReturnsInHanded {} Try.checked os 5 .any (Rows.entryLooksSpec.pre6 enc Try.prog Try.f5 Rows.entryLooksRow.domain false) (Rows.entryLooksSpec.post enc Try.prog Try.f5 false true false false) := by
  refine returnsInHanded_of_change (C := Try.checked) own started (by kernel_rfl) Try.func5
    (ChangeSpec.witness6 (enc := enc) (C := Try.checked) false ⟨#[], #[.agg #[.int .u8 0, .int .u64 0, .string ByteArray.empty, .slice none 0 0, .slice none 0 0], .agg #[.int .u8 0, .int .u64 0, .string ByteArray.empty, .slice none 0 0, .slice none 0 0], .string ByteArray.empty], []⟩ 8 (by kernel_rfl) (by kernel_rfl) (by kernel_rfl) (by kernel_rfl)) ?_
  intro W base args ds gs before hval0 hW hcnd _
  have hval : ∀ (j : Nat) t v, Try.f5.params[j]? = some t → args[j]? = some v → Value.okWide Try.prog W .any base t v := hval0
  have hW' := hW
  obtain ⟨p, q, hA0, hV, rfl, hfz, hnd⟩ := hW
  have hA : DataW.TrodAll enc Try.prog W 0 (fun _ => true) true Try.f5.params.toList args.toList ds p := hA0
  rw [Try.params5] at hA hval
  obtain ⟨v0, vs0, d0, ds0, p0, q0, hargs, rfl, rfl, h0, r0⟩ := trodAll_cons hA
  obtain ⟨v1, vs1, d1, ds1, p1, q1, rfl, rfl, rfl, h1, r1⟩ := trodAll_cons r0
  obtain ⟨v2, vs2, d2, ds2, p2, q2, rfl, rfl, rfl, h2, r2⟩ := trodAll_cons r1
  obtain ⟨rfl, rfl, rfl⟩ := trodAll_nil r2
  obtain rfl : args = #[v0, v1, v2] := by cases args; simp_all
  obtain ⟨rfl, rfl⟩ := trodVars_none hV
  have lt0 := trod_lt' h0
  have lt1 := trod_lt' h1
  have lt2 := trod_lt' h2
  obtain ⟨x0, g0, y0⟩ := arg_repS [26, 5, 22, 9, 23, 24] (hval 0 26 v0 rfl rfl) h0 (by kernel_rfl)
  obtain ⟨x1, g1, y1⟩ := arg_repS [26, 5, 22, 9, 23, 24] (hval 1 26 v1 rfl rfl) h1 (by kernel_rfl)
  obtain ⟨x2, g2, y2⟩ := arg_rep (hval 2 9 v2 rfl rfl) h2 (by kernel_rfl)
  obtain ⟨n0, rfl⟩ := Go.Proofs.Ytbikpgaiocjnoaa.Pad.En.ty_node Try.underlying26 Try.underlying5 Try.underlying22 Try.underlying9 Try.underlying23 Try.underlying24 (by kernel_rfl) (by kernel_rfl) (by kernel_rfl) (by kernel_rfl) (by kernel_rfl) (by kernel_rfl) (by kernel_rfl) y0
  obtain ⟨n1, rfl⟩ := Go.Proofs.Ytbikpgaiocjnoaa.Pad.En.ty_node Try.underlying26 Try.underlying5 Try.underlying22 Try.underlying9 Try.underlying23 Try.underlying24 (by kernel_rfl) (by kernel_rfl) (by kernel_rfl) (by kernel_rfl) (by kernel_rfl) (by kernel_rfl) (by kernel_rfl) y1
  obtain ⟨l2, rfl, hl2⟩ := ty_str Try.underlying9 y2
  refine (calls_of_pf (pf5 n0 n1 l2) (fun p hp => by cases (show p ∈ ([] : List (Nat × List AV)) from hp)) (repL_cons' g0 (repL_cons' g1 (repL_cons' g2 repL_nil')))).mono fun e W' ⟨he, bel⟩ => ?_
  subst he
  exact ⟨_, rfl, _, _, _, [], _, [], hW', trodAll_mk1 (shut_bool Try.underlying4 _), (trodAll_cons_mk (Below.trod laidOut (by kernel_rfl) (of_decide_eq_true (by kernel_rfl)) h0 bel lt0) (trodAll_cons_mk (Below.trod laidOut (by kernel_rfl) (of_decide_eq_true (by kernel_rfl)) h1 bel lt1) (trodAll_cons_mk (Below.trod laidOut (by kernel_rfl) (of_decide_eq_true (by kernel_rfl)) h2 bel lt2) trodAll_mk0))), rfl, bel.frame _, fun h => by cases h⟩
theorem entryLooks : Rows.EntryLooksSaid :=
  OpenClaim.holds_of_wide 5 Try.f5 rfl rfl rfl rfl rfl rfl rfl ⟨rfl, rfl, rfl, rfl, rfl⟩ rfl rfl rfl rfl rfl (by kernel_rfl) Try.func5 (by kernel_rfl)
    (of_decide_eq_true (by kernel_rfl)) (by unfold Func.isWrapper; first | (rw [if_pos (by decide +kernel)]; kernel_rfl) | (rw [if_neg (by decide +kernel)]; exact ⟨rfl, rfl⟩))
    (fun os started H enc _ => liftedEntryLooks os started H enc)
end Go.Proofs.Ytbikpgaiocjnoaa

