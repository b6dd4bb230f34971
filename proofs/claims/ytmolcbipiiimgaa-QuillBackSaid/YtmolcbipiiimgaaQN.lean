import Derived.Test.YtmolcbipiiimgaaQL
import Derived.Test.YtmolcbipiiimgaaQ9
namespace Go.Proofs.Ytmolcbipiiimgaa
open Go.Proofs.Ytmolcbipiiimgaa.Pad
variable {T : Tab}
theorem WR_cons {T : Tab} {o : RO} {os : List RO} {Q : St → Prop} {s : St} : WR T (o :: os) Q s = (need T o s ∧ WR T os Q (Go.Proofs.Ytmolcbipiiimgaa.Pad.step T o s)) := rfl
theorem WR_nil {T : Tab} {Q : St → Prop} {s : St} : WR T [] Q s = Q s := rfl
theorem bytesAV_take (l : List UInt8) (n : Nat) : (bytesAV l).take n = bytesAV (l.take n) := by simp [bytesAV]
set_option maxRecDepth 100000 in
set_option maxHeartbeats 8000000 in
theorem lawBack_pf (l s u : List UInt8) (n : Int) (h0 : inK .u64 n) : PFx Try.prog 6 [.sl (bytesAV l) l.length, .int .u64 n, .agg [.str s, .str u]] (.bool true) := by
  refine PFx_of_W (rc := rc6) (rs := rs6) Try.func6 rfl (t9_ok (t10_ok (t14_ok (t17_ok (t19_ok (t22_ok (t24_ok tabNil_sound))))))) hm (by kernel_rfl) (by kernel_rfl) (by simp [Try.ntmps6]) ?_
  simp only [inK] at h0
  by_cases hl : l.length ≤ 200
  · have hl1 : ¬ (200 : Int) < l.length := by omega
    by_cases hs : s.length ≤ 200
    · have hs1 : ¬ (200 : Int) < s.length := by omega
      by_cases hu : u.length ≤ 200
      · have hu1 : ¬ (200 : Int) < u.length := by omega
        have m1 : 0 ≤ n.tmod 8 := Int.tmod_nonneg _ h0.1
        have m2 : n.tmod 8 < 8 := Int.tmod_lt_of_pos _ (by omega)
        obtain ⟨K, hK⟩ : ∃ K : Nat, 1 + n.tmod 8 = K := ⟨(1 + n.tmod 8).toNat, by omega⟩
        have k1 : 1 ≤ K := by omega
        have k8 : K ≤ 8 := by omega
        have eN : numB l K n = l ++ beB K n.toNat := by unfold numB; rw [if_pos (by omega), Int.toNat_natCast]
        have e14 := t14_eq (T := t17 (t19 (t22 (t24 tabNil)))) l K n ⟨by omega, h0.1⟩
        rw [eN] at e14
        simp only [List.length_append, beB_len] at e14
        have e10 := t10_eq (T := t14 (t17 (t19 (t22 (t24 tabNil))))) (l ++ beB K n.toNat) s ⟨by simp; omega, by omega⟩
        simp only [List.length_append, beB_len, List.append_assoc] at e10
        obtain ⟨R, hR⟩ : ∃ R, R = n.toNat % 256 ^ K := ⟨_, rfl⟩
        have f24 := takeNum_be l (rowB s ++ u) K n.toNat k1 k8
        rw [← hR, List.append_assoc] at f24
        have e24 := t24_eq (T := tabNil) (l ++ (beB K n.toNat ++ (rowB s ++ u))) l.length 0 K (by simp; omega)
        rw [f24] at e24
        obtain ⟨A, hA⟩ : ∃ A : Int, A = (l.length : Int) + K + 2 + s.length := ⟨_, rfl⟩
        have f22 := takeRow_row (l ++ beB K n.toNat) s u (by omega)
        simp only [List.length_append, beB_len, List.append_assoc, Int.natCast_add] at f22
        rw [← hA] at f22
        have e22 := t22_eq (T := t24 tabNil) (l ++ (beB K n.toNat ++ (rowB s ++ u))) ((l.length : Int) + K) 0 (by simp; omega)
        rw [f22] at e22
        have lt : ((l ++ (beB K n.toNat ++ (rowB s ++ u))).length : Int) = A + u.length := by simp; omega
        have e17 := t17_eq (T := t19 (t22 (t24 tabNil))) (l ++ (beB K n.toNat ++ (rowB s ++ u))) A 0 (by simp; omega)
        have f17 : restOf (l ++ (beB K n.toNat ++ (rowB s ++ u))) A 0 = u := by
          unfold restOf
          rw [if_neg (by rw [lt]; omega), show l ++ (beB K n.toNat ++ (rowB s ++ u)) = (l ++ beB K n.toNat ++ rowB s) ++ u by simp, List.drop_left' (by simp; omega)]
        rw [f17] at e17
        have e19 := t19_eq (T := t22 (t24 tabNil)) (l ++ (beB K n.toNat ++ (rowB s ++ u))) A 0 (by simp; omega)
        have f19 : endOf (l ++ (beB K n.toNat ++ (rowB s ++ u))) A 0 = if u = [] then 0 else 4 := by
          unfold endOf
          rw [if_neg (by simp), if_neg (by rw [lt]; omega), lt]
          by_cases h : u = []
          · simp [h]
          · have := List.length_pos_iff.2 h
            rw [if_pos (by omega), if_neg h]
        rw [f19] at e19
        simp only at e24 e22
        simp (maxSteps := 20000000) [rc6, rs6, -WR, ↓WR_cons, ↓WR_nil, -W_seq, ↓W_seq, -W_reg, ↓W_reg, -W_cond, ↓W_condI, -W_block, ↓W_block, -W_ret, ↓W_ret, -W_exit, ↓W_exit, -W_skip, ↓W_skip, hl1, hs1, hu1, hK, e14, e10, e24, e22, e17, e19, bytes_all, bytesAV_take, -AV.isU8]
        have hp : K < 8 → IntKind.u64.wrap (2 ^ min (8 * (K : Int)).toNat IntKind.u64.bits) = ((256 ^ K : Nat) : Int) := fun h => by
          have : K = 0 ∨ K = 1 ∨ K = 2 ∨ K = 3 ∨ K = 4 ∨ K = 5 ∨ K = 6 ∨ K = 7 := by omega
          rcases this with rfl | rfl | rfl | rfl | rfl | rfl | rfl | rfl <;> decide
        have hr : K < 8 → (R : Int) = n.tmod (IntKind.u64.wrap (2 ^ min (8 * (K : Int)).toNat IntKind.u64.bits)) := fun h => by
          rw [hp h, hR, Int.tmod_eq_emod_of_nonneg h0.1, Int.natCast_emod, Int.toNat_of_nonneg h0.1]
        have hz : K < 8 → ¬ IntKind.u64.wrap (2 ^ min (8 * (K : Int)).toNat IntKind.u64.bits) = 0 := fun h => by
          rw [hp h]
          have : 0 < 256 ^ K := Nat.pow_pos (by omega)
          omega
        have h8 : K = 8 → (R : Int) = n := fun h => by
          subst h
          rw [hR, Nat.mod_eq_of_lt (by omega), Int.toNat_of_nonneg h0.1]
        refine ⟨by omega, by omega, by omega, by omega, by omega, fun h => ⟨h, by omega⟩, by omega, by omega, by omega, fun h => ⟨h, by omega⟩, fun h => ⟨h, by omega⟩, fun h => ⟨h, by omega⟩, fun h => ⟨h, hz (by omega)⟩, fun _ => ⟨fun h => hr (by omega), fun h => ⟨fun h' => by omega, h⟩⟩, fun h => hr (by omega), fun h => h8 (by omega)⟩
      · have hu1 : (200 : Int) < u.length := by omega
        simp (maxSteps := 20000000) [rc6, rs6, -WR, ↓WR_cons, ↓WR_nil, -W_seq, ↓W_seq, -W_reg, ↓W_reg, -W_cond, ↓W_condI, -W_block, ↓W_block, -W_ret, ↓W_ret, -W_exit, ↓W_exit, -W_skip, ↓W_skip, hl1, hs1, hu1]
    · have hs1 : (200 : Int) < s.length := by omega
      simp (maxSteps := 20000000) [rc6, rs6, -WR, ↓WR_cons, ↓WR_nil, -W_seq, ↓W_seq, -W_reg, ↓W_reg, -W_cond, ↓W_condI, -W_block, ↓W_block, -W_ret, ↓W_ret, -W_exit, ↓W_exit, -W_skip, ↓W_skip, hl1, hs1]
  · have hl1 : (200 : Int) < l.length := by omega
    simp (maxSteps := 20000000) [rc6, rs6, -WR, ↓WR_cons, ↓WR_nil, -W_seq, ↓W_seq, -W_reg, ↓W_reg, -W_cond, ↓W_condI, -W_block, ↓W_block, -W_ret, ↓W_ret, -W_exit, ↓W_exit, -W_skip, ↓W_skip, hl1]
end Go.Proofs.Ytmolcbipiiimgaa
