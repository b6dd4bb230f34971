import Derived.Test.YtmolcbipiiimgaaQ4
set_option linter.unusedVariables false
set_option linter.unusedSimpArgs false
namespace Go.Proofs.Ytmolcbipiiimgaa
open Go.Proofs.Ytmolcbipiiimgaa.Pad
variable {T : Tab}
set_option maxHeartbeats 2000000 in
theorem rnumS_pf (hT : Sound Try.prog T) (t : List UInt8) (a b size : Int) (h : t.length ≤ 1000000) : PFx Try.prog 25 [.agg [.str t, .int .i64 a, .int .i64 b], .int .i64 size] (.tup [.int .u64 (takeNum t a b size).1, .agg [.str t, .int .i64 (takeNum t a b size).2.1, .int .i64 (takeNum t a b size).2.2]]) := by
  refine PFx_of_W (rc := rc25) (rs := rs25) Try.func25 rfl (t35_ok (t38_ok hT)) hm (by kernel_rfl) (by kernel_rfl) (by simp [Try.ntmps25]) ?_
  by_cases hb : b = 0
  · subst hb
    by_cases hv : (0 ≤ a ∧ a ≤ t.length) ∧ 1 ≤ size ∧ size ≤ 8
    · obtain ⟨⟨v1, v2⟩, v3, v4⟩ := hv
      simp [rc25, rs25, v1, v2, v3, v4, h, -W_condI, ↓W_cond]
      refine ⟨by omega, by omega, fun hs => ?_, fun hs => ?_⟩
      · have e : takeNum t a 0 size = (0, a, 3) := by
          unfold takeNum; rw [if_neg (by simp), if_neg (by omega), if_pos hs]
        simp [e, -W_condI, ↓W_cond]
      have e : takeNum t a 0 size = (numOf ((t.drop a.toNat).take size.toNat), a + size, 0) := by
        unfold takeNum; rw [if_neg (by simp), if_neg (by omega), if_neg (by omega)]
      refine W_loop (fun s => ∃ k : Nat, k ≤ size.toNat ∧ s = [⟨1, .int .i64 size, True, false⟩, ⟨2, .box [.str t, .int .i64 a, .int .i64 0], True, false⟩, ⟨5, .box [.str [], .int .i64 0, .int .i64 0], True, false⟩, ⟨6, .int .u64 (numOf ((t.drop a.toNat).take k)), True, false⟩, ⟨7, .int .i64 k, True, false⟩]) (fun s => (size - (s.env 7).toI).toNat) ⟨0, by omega, by simp [numOf]⟩ ?_
      rintro s ⟨k, hk, rfl⟩
      rcases Nat.lt_or_ge k size.toNat with hlt | hge
      · have g1 : (k : Int) < size := by omega
        have g2 : 0 ≤ a + k := by omega
        have g3 : a + k < t.length := by omega
        simp [g1, g2, g3, -W_condI, ↓W_cond]
        have gt : (a + (k : Int)).toNat = a.toNat + k := by omega
        have hi : (a + (k : Int)).toNat < t.length := by omega
        have st := num_step (t := t) (i := a.toNat) (k := k) (by omega)
        have ge : t.getD (a.toNat + k) 0 = t[(a + (k : Int)).toNat] := by
          rw [← gt, List.getD_eq_getElem?_getD, List.getElem?_eq_getElem hi]; rfl
        have lt := num_lt7 (t := t) (i := a.toNat) (k := k) (by omega)
        have bl := (t[(a + (k : Int)).toNat]).toNat_lt
        rw [ge] at st
        refine ⟨by omega, by omega, by omega, ⟨k + 1, by omega, ?_, by omega⟩, by omega⟩
        rw [st]
        generalize numOf ((t.drop a.toNat).take k) = m at lt ⊢
        rw [wrap_u64, wrap_u64, Int.emod_eq_of_lt (a := 256 * (m : Int)) (by omega) (by omega), Int.emod_eq_of_lt (by omega) (by omega)]
        omega
      · obtain rfl : k = size.toNat := by omega
        have g1 : ¬ (size.toNat : Int) < size := by omega
        simp [g1, e, -W_condI, ↓W_cond]
        refine ⟨by omega, fun _ => ⟨by omega, ?_⟩⟩
        all_goals (rintro x ((rfl | rfl) | rfl) <;> rfl)
    · have e : takeNum t a 0 size = (0, a, 2) := by
        unfold takeNum; rw [if_neg (by simp), if_pos (by omega)]
      have hv' : ¬ (0 ≤ a ∧ a ≤ (t.length : Int)) ∨ ¬ (1 ≤ size ∧ size ≤ 8) := by omega
      simp [rc25, rs25, e, -W_condI, ↓W_cond]
      intro h1 h2 h3 h4; omega
  · have e : takeNum t a b size = (0, a, b) := by unfold takeNum; rw [if_pos hb]
    simp [rc25, rs25, hb, e]
noncomputable def t24 (T : Tab) : Tab := tabAdd T 24 (fun x : List UInt8 × Int × Int × Int => x.1.length ≤ 1000000) (fun x => [.agg [.str x.1, .int .i64 x.2.1, .int .i64 x.2.2.1], .int .i64 x.2.2.2]) (fun x => .tup [.int .u64 (takeNum x.1 x.2.1 x.2.2.1 x.2.2.2).1, .agg [.str x.1, .int .i64 (takeNum x.1 x.2.1 x.2.2.1 x.2.2.2).2.1, .int .i64 (takeNum x.1 x.2.1 x.2.2.1 x.2.2.2).2.2]])
@[simp] theorem t24_eq (t : List UInt8) (a : Int) (b : Int) (size : Int) (h : t.length ≤ 1000000) : t24 T 24 [.agg [.str t, .int .i64 a, .int .i64 b], .int .i64 size] = some (.tup [.int .u64 (takeNum t a b size).1, .agg [.str t, .int .i64 (takeNum t a b size).2.1, .int .i64 (takeNum t a b size).2.2]]) := tabAdd_eq (a := (t, a, b, size)) (by simp +contextual) h rfl
@[simp] theorem t24_ne {g : Nat} {xs : List AV} (h : g ≠ 24) : t24 T g xs = T g xs := tabAdd_ne h
theorem t24_ok (hT : Sound Try.prog T) : Sound Try.prog (t24 T) := tabAdd_sound hT fun x h => snum_pf hT x.1 x.2.1 x.2.2.1 x.2.2.2 h
noncomputable def t25 (T : Tab) : Tab := tabAdd T 25 (fun x : List UInt8 × Int × Int × Int => x.1.length ≤ 1000000) (fun x => [.agg [.str x.1, .int .i64 x.2.1, .int .i64 x.2.2.1], .int .i64 x.2.2.2]) (fun x => .tup [.int .u64 (takeNum x.1 x.2.1 x.2.2.1 x.2.2.2).1, .agg [.str x.1, .int .i64 (takeNum x.1 x.2.1 x.2.2.1 x.2.2.2).2.1, .int .i64 (takeNum x.1 x.2.1 x.2.2.1 x.2.2.2).2.2]])
@[simp] theorem t25_eq (t : List UInt8) (a : Int) (b : Int) (size : Int) (h : t.length ≤ 1000000) : t25 T 25 [.agg [.str t, .int .i64 a, .int .i64 b], .int .i64 size] = some (.tup [.int .u64 (takeNum t a b size).1, .agg [.str t, .int .i64 (takeNum t a b size).2.1, .int .i64 (takeNum t a b size).2.2]]) := tabAdd_eq (a := (t, a, b, size)) (by simp +contextual) h rfl
@[simp] theorem t25_ne {g : Nat} {xs : List AV} (h : g ≠ 25) : t25 T g xs = T g xs := tabAdd_ne h
theorem t25_ok (hT : Sound Try.prog T) : Sound Try.prog (t25 T) := tabAdd_sound hT fun x h => rnumS_pf hT x.1 x.2.1 x.2.2.1 x.2.2.2 h
end Go.Proofs.Ytmolcbipiiimgaa
