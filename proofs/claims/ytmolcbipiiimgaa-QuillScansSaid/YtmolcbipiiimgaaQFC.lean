/- What any Scan tells is what the document says. Conditions: none but those of the statement itself. -/
import Derived.Test.YtmolcbipiiimgaaQF
import Derived.Test.YtmolcbipiiimgaaQS
set_option linter.unusedVariables false
set_option linter.unusedSimpArgs false
namespace Go.Proofs.Ytmolcbipiiimgaa
open Go.ChangeShapes Go.WideShapes Go.ChangeAt Go.RowKit Go.Proofs.Ytmolcbipiiimgaa.Pad
theorem three_of {xs : List AV} (h : xs.length = 3) : ∃ x y z, xs = [x, y, z] := by
  match xs, h with
  | [x, y, z], _ => exact ⟨x, y, z, rfl⟩
set_option maxRecDepth 100000 in
theorem liftedScans (os : Os) (started : os.Started) (H : Type) (enc : TypeId × Value → H) :
    ReturnsInHanded {} Try.checked os 4 .any (Rows.quillScansSpec.pre6 enc Try.prog Try.f4 Rows.quillScansRow.domain false) (Rows.quillScansSpec.post enc Try.prog Try.f4 false true false false) := by
  refine returnsInHanded_of_change (C := Try.checked) own started (by kernel_rfl) Try.func4
    (ChangeSpec.witness6 (enc := enc) (C := Try.checked) false ⟨#[], #[.agg #[.string ByteArray.empty, .int .i64 0, .int .i64 0], .slice none 0 0], []⟩ 8 (by kernel_rfl) (by kernel_rfl) (by kernel_rfl) (by kernel_rfl)) ?_
  intro W base args ds gs before hval0 hW hcnd _
  have hval : ∀ (j : Nat) t v, Try.f4.params[j]? = some t → args[j]? = some v → Value.okWide Try.prog W .any base t v := hval0
  have hW' := hW
  obtain ⟨p, q, hA0, hV, rfl, hfz, hnd⟩ := hW
  have hA : DataW.TrodAll enc Try.prog W 0 (fun _ => true) true Try.f4.params.toList args.toList ds p := hA0
  rw [Try.params4] at hA hval
  obtain ⟨v0, vs0, d0, ds0, p0, q0, hargs, rfl, rfl, h0, r0⟩ := trodAll_cons hA
  obtain ⟨v1, vs1, d1, ds1, p1, q1, rfl, rfl, rfl, h1, r1⟩ := trodAll_cons r0
  obtain ⟨rfl, rfl, rfl⟩ := trodAll_nil r1
  obtain rfl : args = #[v0, v1] := by cases args; simp_all
  obtain ⟨rfl, rfl⟩ := trodVars_none hV
  have lt0 := trod_lt' h0
  have lt1 := trod_lt' h1
  obtain ⟨x0, g0, y0⟩ := arg_rep (hval 0 38 v0 rfl rfl) h0 (by kernel_rfl)
  obtain ⟨x1, g1, y1⟩ := arg_rep (hval 1 39 v1 rfl rfl) h1 (by kernel_rfl)
  obtain ⟨n1, xs1, rfl, z1, z2⟩ := ty_struct Try.underlying38 y0
  rw [show Try.prog.cellsOf 38 = 3 by kernel_rfl] at z1
  have c9 : Try.prog.cellsOf 9 = 1 := by kernel_rfl
  have c3 : Try.prog.cellsOf 3 = 1 := by kernel_rfl
  obtain ⟨xa, xb, xc, rfl⟩ := three_of z1
  have k0 := z2 _ (List.mem_cons_self ..)
  have k1 := z2 _ (List.mem_cons_of_mem _ (List.mem_cons_self ..))
  have k2 := z2 _ (List.mem_cons_of_mem _ (List.mem_cons_of_mem _ (List.mem_cons_self ..)))
  simp only [c9, c3] at k0 k1 k2
  obtain ⟨qa, ea, ha⟩ := tyc_str Try.underlying9 k0
  obtain ⟨qb, eb, hb⟩ := tyc_int Try.underlying3 k1
  obtain ⟨qc, ec, hc⟩ := tyc_int Try.underlying3 k2
  obtain rfl : xa = .str qa := by simpa using ea
  obtain rfl : xb = .int .i64 qb := by simpa using eb
  obtain rfl : xc = .int .i64 qc := by simpa using ec
  obtain ⟨zs, rfl, _⟩ := ty_ints Try.underlying39 Try.underlying3 y1
  refine (calls_of_pf (lawScans_pf qa qb qc zs (rep_sl_len g1)) (repL_cons' g0 (repL_cons' g1 repL_nil'))).mono fun e W' ⟨he, bel⟩ => ?_
  subst he
  exact ⟨_, rfl, _, _, _, [], _, [], hW', trodAll_mk1 (shut_bool Try.underlying4 _), (trodAll_cons_mk (Below.trod laidOut (by kernel_rfl) (of_decide_eq_true (by kernel_rfl)) h0 bel lt0) (trodAll_cons_mk (Below.trod laidOut (by kernel_rfl) (of_decide_eq_true (by kernel_rfl)) h1 bel lt1) trodAll_mk0)), rfl, bel.frame _, fun h => by cases h⟩
theorem quillScans : Rows.QuillScansSaid :=
  OpenClaim.holds_of_wide 4 Try.f4 rfl rfl rfl rfl rfl rfl rfl ⟨rfl, rfl, rfl, rfl, rfl⟩ rfl rfl rfl rfl rfl (by kernel_rfl) Try.func4 (by kernel_rfl)
    (of_decide_eq_true (by kernel_rfl)) (by unfold Func.isWrapper; first | (rw [if_pos (by decide +kernel)]; kernel_rfl) | (rw [if_neg (by decide +kernel)]; exact ⟨rfl, rfl⟩))
    (fun os started H enc _ => liftedScans os started H enc)
end Go.Proofs.Ytmolcbipiiimgaa
