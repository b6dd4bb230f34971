import Derived.Test.YtmolcbipiiimgaaQL
import Derived.Test.YtmolcbipiiimgaaQ9
namespace Go.Proofs.Ytmolcbipiiimgaa
open Go.Proofs.Ytmolcbipiiimgaa.Pad
variable {T : Tab}
theorem WR_cons {T : Tab} {o : RO} {os : List RO} {Q : St → Prop} {s : St} : WR T (o :: os) Q s = (need T o s ∧ WR T os Q (Go.Proofs.Ytmolcbipiiimgaa.Pad.step T o s)) := rfl
theorem WR_nil {T : Tab} {Q : St → Prop} {s : St} : WR T [] Q s = Q s := rfl
theorem tmod12 (q : Int) (h : 0 ≤ q) : 0 ≤ q.tmod 12 ∧ q.tmod 12 < 12 := ⟨Int.tmod_nonneg _ h, Int.tmod_lt_of_pos _ (by omega)⟩
set_option maxHeartbeats 4000000 in
theorem lawLays_pf (l : List UInt8) (q0 q1 : Int) (ls : List (List UInt8)) (h0 : inK .u64 q0) (h1 : inK .u64 q1) (hl : ls.length ≤ 9223372036854775807) :
    PFx Try.prog 3 [.sl (bytesAV l) l.length, .agg [.int .u64 q0, .int .u64 q1], .sl (ls.map .str) ls.length] (.bool true) := by
  refine PFx_of_W (rc := rc3) (rs := rs3) Try.func3 rfl (t8_ok (t9_ok (t10_ok (t11_ok (t12_ok (t13_ok (t14_ok (t15_ok tabNil_sound)))))))) hm (by kernel_rfl) (by kernel_rfl) (by simp [Try.ntmps3]) ?_
  simp only [inK] at h0 h1
  by_cases hb : l.length ≤ 200
  · have hb1 : ¬ (200 : Int) < l.length := by omega
    by_cases hf : few ls
    · have e10 := t10_eq (T := t11 (t12 (t13 (t14 (t15 tabNil))))) l l ⟨by omega, by omega⟩
      have e11 := t11_eq (T := t12 (t13 (t14 (t15 tabNil)))) l l ⟨by omega, by omega⟩
      have e8 := t8_few (T := t9 (t10 (t11 (t12 (t13 (t14 (t15 tabNil))))))) ls hl hf
      obtain ⟨m1, m2⟩ := tmod12 q0 h0.1
      have e14 := t14_eq (T := t15 tabNil) l (q0.tmod 12 - 1) q1 ⟨by omega, h1.1⟩
      have e15 := t15_eq (T := tabNil) l (q0.tmod 12 - 1) q1 ⟨by omega, h1.1, by omega⟩
      simp [rc3, rs3, -WR, ↓WR_cons, ↓WR_nil, -W_seq, ↓W_seq, -W_reg, ↓W_reg, -W_cond, ↓W_condI, -W_block, ↓W_block, -W_ret, ↓W_ret, -W_exit, ↓W_exit, -W_skip, ↓W_skip, hb1, e8, e10, e11, e14, e15, hf, bytes_all, -AV.isU8]
      omega
    · simp [rc3, rs3, -WR, ↓WR_cons, ↓WR_nil, -W_seq, ↓W_seq, -W_reg, ↓W_reg, -W_cond, ↓W_condI, -W_block, ↓W_block, -W_ret, ↓W_ret, -W_exit, ↓W_exit, -W_skip, ↓W_skip, hb1, hl, hf]
  · have hb1 : (200 : Int) < l.length := by omega
    simp [rc3, rs3, -WR, ↓WR_cons, ↓WR_nil, -W_seq, ↓W_seq, -W_reg, ↓W_reg, -W_cond, ↓W_condI, -W_block, ↓W_block, -W_ret, ↓W_ret, -W_exit, ↓W_exit, -W_skip, ↓W_skip, hb1]
end Go.Proofs.Ytmolcbipiiimgaa
