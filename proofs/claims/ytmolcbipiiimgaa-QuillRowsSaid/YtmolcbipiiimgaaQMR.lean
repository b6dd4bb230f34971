import Derived.Test.YtmolcbipiiimgaaQL
import Derived.Test.YtmolcbipiiimgaaQ9
namespace Go.Proofs.Ytmolcbipiiimgaa
open Go.Proofs.Ytmolcbipiiimgaa.Pad
variable {T : Tab}
theorem WR_cons {T : Tab} {o : RO} {os : List RO} {Q : St → Prop} {s : St} : WR T (o :: os) Q s = (need T o s ∧ WR T os Q (Go.Proofs.Ytmolcbipiiimgaa.Pad.step T o s)) := rfl
theorem WR_nil {T : Tab} {Q : St → Prop} {s : St} : WR T [] Q s = Q s := rfl
set_option maxHeartbeats 4000000 in
theorem lawRows_pf (a b : List (List UInt8)) (ha : a.length ≤ 9223372036854775807) (hb : b.length ≤ 9223372036854775807) :
    PFx Try.prog 7 [.sl (a.map .str) a.length, .sl (b.map .str) b.length] (.bool true) := by
  refine PFx_of_W (rc := rc7) (rs := rs7) Try.func7 rfl (t8_ok (t9_ok (t12_ok (t26_ok (t28_ok tabNil_sound))))) hm (by kernel_rfl) (by kernel_rfl) (by simp [Try.ntmps7]) ?_
  by_cases fa : few a
  · by_cases fb : few b
    · have la := few_len fa
      have lb := few_len fb
      have lla := fa.1
      have llb := fb.1
      have e1 : splitOf (rowsB a ++ rowsB b) = (a ++ b, 0) := by
        rw [← rowsB_app]
        exact splitOf_rows (a ++ b) (fun s hs => by rcases List.mem_append.1 hs with h | h; · have := fa.2 s h; omega
                                                    · have := fb.2 s h; omega) (by simp; omega)
      have e28 := t28_eq (T := tabNil) (a ++ b) (a ++ b) (by simp; omega)
      have q1 : (rowsB a ++ rowsB b).length ≤ 1000000 := by simp; omega
      have e26 := t26_eq (T := t28 tabNil) _ q1
      simp only [List.map_append, List.length_append] at e28
      rw [e1] at e26
      simp only [List.map_append, List.length_append] at e26
      by_cases hn : rowsB a ++ rowsB b = []
      · have na : a = [] := by
          have := rowsB_ge a
          have h : (rowsB a ++ rowsB b).length = 0 := by rw [hn]; rfl
          rw [List.length_append] at h
          exact List.length_eq_zero_iff.1 (by omega)
        have nb : b = [] := by
          have := rowsB_ge b
          have h : (rowsB a ++ rowsB b).length = 0 := by rw [hn]; rfl
          rw [List.length_append] at h
          exact List.length_eq_zero_iff.1 (by omega)
        subst na nb
        have hr : rowsB [] = [] := rfl
        have hs : splitOf [] = ([], 0) := by decide
        have e28' := t28_eq (T := tabNil) [] [] (by simp)
        simp only [List.map_nil, List.length_nil] at e28'
        have e8' := t8_few (T := t9 (t12 (t26 (t28 tabNil)))) [] (by simp) fa
        simp only [List.map_nil, List.length_nil] at e8'
        have e12' := t12_eq (T := t26 (t28 tabNil)) [] fa
        simp only [List.map_nil, List.length_nil, hr, bytesAV_nil] at e12'
        have e26' := t26_eq (T := t28 tabNil) [] (by simp)
        rw [hs] at e26'
        simp only [List.map_nil, List.length_nil] at e26'
        simp [rc7, rs7, e8', e12', e26', -WR, ↓WR_cons, ↓WR_nil, -W_seq, ↓W_seq, -W_reg, ↓W_reg, -W_cond, ↓W_condI, -W_block, ↓W_block, -W_ret, ↓W_ret, -W_exit, ↓W_exit, -W_skip, ↓W_skip, fa, fb, ha, hb, e28', hr, hs, bytes_all, -AV.isU8]
      · have hne : a ++ b ≠ [] := fun e => hn (by rw [← rowsB_app, e]; rfl)
        have e2 := splitOf_cut (a ++ b) (fun s hs => by rcases List.mem_append.1 hs with h | h; · have := fa.2 s h; omega
                                                        · have := fb.2 s h; omega) (by simp; omega) hne
        have q2 : ((rowsB (a ++ b)).take ((rowsB (a ++ b)).length - 1)).length ≤ 1000000 := by rw [rowsB_app]; simp; omega
        have e26' := t26_eq (T := t28 tabNil) _ q2
        rw [e2, rowsB_app] at e26'
        simp only [List.length_append] at e26'
        have htn : (((rowsB a).length : Int) + (rowsB b).length).toNat = (rowsB a).length + (rowsB b).length := by omega
        simp [rc7, rs7, htn, -WR, ↓WR_cons, ↓WR_nil, -W_seq, ↓W_seq, -W_reg, ↓W_reg, -W_cond, ↓W_condI, -W_block, ↓W_block, -W_ret, ↓W_ret, -W_exit, ↓W_exit, -W_skip, ↓W_skip, fa, fb, ha, hb, e26, e28, e26', hn, bytes_all, -AV.isU8]
        have hpos : 0 < (rowsB a ++ rowsB b).length := List.length_pos_iff.2 hn
        rw [List.length_append] at hpos
        omega
    · simp [rc7, rs7, -WR, ↓WR_cons, ↓WR_nil, -W_seq, ↓W_seq, -W_reg, ↓W_reg, -W_cond, ↓W_condI, -W_block, ↓W_block, -W_ret, ↓W_ret, -W_exit, ↓W_exit, -W_skip, ↓W_skip, fa, fb, ha, hb]
  · simp [rc7, rs7, -WR, ↓WR_cons, ↓WR_nil, -W_seq, ↓W_seq, -W_reg, ↓W_reg, -W_cond, ↓W_condI, -W_block, ↓W_block, -W_ret, ↓W_ret, -W_exit, ↓W_exit, -W_skip, ↓W_skip, fa, ha]
end Go.Proofs.Ytmolcbipiiimgaa
