import Derived.Test.YtmolcbipiiimgaaQ5
set_option linter.unusedVariables false
set_option linter.unusedSimpArgs false
namespace Go.Proofs.Ytmolcbipiiimgaa
open Go.Proofs.Ytmolcbipiiimgaa.Pad
variable {T : Tab}
def takeRow (t : List UInt8) (a b : Int) : List UInt8 × Int × Int :=
  if (takeNum t a b 2).2.2 ≠ 0 then ([], (takeNum t a b 2).2.1, (takeNum t a b 2).2.2)
  else if t.length - (takeNum t a b 2).2.1 < (takeNum t a b 2).1 then ([], a, 3)
  else ((t.take ((takeNum t a b 2).2.1 + (takeNum t a b 2).1).toNat).drop (takeNum t a b 2).2.1.toNat, (takeNum t a b 2).2.1 + (takeNum t a b 2).1, (takeNum t a b 2).2.2)
theorem takeNum_ok {t : List UInt8} {a b size : Int} (h : (takeNum t a b size).2.2 = 0) : b = 0 ∧ 0 ≤ a ∧ 1 ≤ size ∧ size ≤ 8 ∧ (takeNum t a b size).2.1 = a + size ∧ a + size ≤ t.length ∧ (takeNum t a b size).1 = numOf ((t.drop a.toNat).take size.toNat) := by
  unfold takeNum at h ⊢
  split at h
  · exact absurd h ‹b ≠ 0›
  · rename_i hb
    split at h
    · simp at h
    · rename_i hv
      split at h
      · simp at h
      · rename_i hs
        rw [if_neg hb, if_neg hv, if_neg hs]
        exact ⟨by omega, by omega, by omega, by omega, rfl, by omega, rfl⟩
theorem takeNum_lt2 {t : List UInt8} {a b : Int} : (takeNum t a b 2).1 < 65536 := by
  unfold takeNum
  split
  · simp [-W_condI, ↓W_cond]
  · split
    · simp [-W_condI, ↓W_cond]
    · split
      · simp [-W_condI, ↓W_cond]
      · have h1 := numOf_lt ((t.drop a.toNat).take (2 : Int).toNat)
        have h2 : ((t.drop a.toNat).take (2 : Int).toNat).length ≤ 2 := by simp; omega
        have h3 : 256 ^ ((t.drop a.toNat).take (2 : Int).toNat).length ≤ 256 ^ 2 := Nat.pow_le_pow_right (by omega) h2
        rw [show (256 : Nat) ^ 2 = 65536 from rfl] at h3
        exact Nat.lt_of_lt_of_le h1 h3
set_option maxHeartbeats 2000000 in
theorem srow_pf (hT : Sound Try.prog T) (t : List UInt8) (a b : Int) (h : t.length ≤ 1000000) : PFx Try.prog 22 [.agg [.str t, .int .i64 a, .int .i64 b]] (.tup [.str (takeRow t a b).1, .agg [.str t, .int .i64 (takeRow t a b).2.1, .int .i64 (takeRow t a b).2.2]]) := by
  refine PFx_of_W (rc := rc22) (rs := rs22) Try.func22 rfl (t24_ok (t34_ok (t36_ok (t37_ok hT)))) hm (by kernel_rfl) (by kernel_rfl) (by simp [Try.ntmps22]) ?_
  have e := t24_eq (T := t34 (t36 (t37 T))) t a b 2 h
  have l2 := takeNum_lt2 (t := t) (a := a) (b := b)
  by_cases hb : (takeNum t a b 2).2.2 = 0
  · obtain ⟨k1, k2, _, _, k3, k4, _⟩ := takeNum_ok hb
    subst k1
    obtain ⟨n, hn⟩ : ∃ n, takeNum t a 0 2 = (n, a + 2, 0) := ⟨(takeNum t a 0 2).1, Prod.ext rfl (Prod.ext k3 hb)⟩
    rw [hn] at e l2
    simp only at e l2
    have e36 := t36_eq (T := t37 T) t (a + 2) 0 ⟨by omega, by omega, h⟩
    by_cases hs : (t.length : Int) - (a + 2) < n
    · have er : takeRow t a 0 = ([], a, 3) := by unfold takeRow; rw [hn, if_neg (by simp), if_pos hs]
      simp [rc22, rs22, e, e36, er, hs]
      omega
    · have er : takeRow t a 0 = ((t.take (a + 2 + n).toNat).drop (a + 2).toNat, a + 2 + n, 0) := by unfold takeRow; rw [hn, if_neg (by simp), if_neg hs]
      have e34 := t34_eq (T := t36 (t37 T)) t (a + 2) 0 (a + 2 + n) ⟨by omega, by omega, by omega, h⟩
      simp [rc22, rs22, e, e36, e34, hs, er]
      omega
  · have er : takeRow t a b = ([], (takeNum t a b 2).2.1, (takeNum t a b 2).2.2) := by unfold takeRow; rw [if_pos hb]
    simp [rc22, rs22, e, hb, er]
set_option maxHeartbeats 2000000 in
theorem rrowS_pf (hT : Sound Try.prog T) (t : List UInt8) (a b : Int) (h : t.length ≤ 1000000) : PFx Try.prog 23 [.agg [.str t, .int .i64 a, .int .i64 b]] (.tup [.str (takeRow t a b).1, .agg [.str t, .int .i64 (takeRow t a b).2.1, .int .i64 (takeRow t a b).2.2]]) := by
  refine PFx_of_W (rc := rc23) (rs := rs23) Try.func23 rfl (t25_ok (t38_ok hT)) hm (by kernel_rfl) (by kernel_rfl) (by simp [Try.ntmps23]) ?_
  have e := t25_eq (T := t38 T) t a b 2 h
  have l2 := takeNum_lt2 (t := t) (a := a) (b := b)
  by_cases hb : (takeNum t a b 2).2.2 = 0
  · obtain ⟨k1, k2, _, _, k3, k4, _⟩ := takeNum_ok hb
    subst k1
    obtain ⟨n, hn⟩ : ∃ n, takeNum t a 0 2 = (n, a + 2, 0) := ⟨(takeNum t a 0 2).1, Prod.ext rfl (Prod.ext k3 hb)⟩
    rw [hn] at e l2
    simp only at e l2
    by_cases hs : (t.length : Int) - (a + 2) < n
    · have er : takeRow t a 0 = ([], a, 3) := by unfold takeRow; rw [hn, if_neg (by simp), if_pos hs]
      simp [rc23, rs23, e, er, hs]
      omega
    · have er : takeRow t a 0 = ((t.take (a + 2 + n).toNat).drop (a + 2).toNat, a + 2 + n, 0) := by unfold takeRow; rw [hn, if_neg (by simp), if_neg hs]
      simp [rc23, rs23, e, hs, er]
      exact ⟨by omega, by omega, by omega, by omega, by omega, by omega⟩

  · have er : takeRow t a b = ([], (takeNum t a b 2).2.1, (takeNum t a b 2).2.2) := by unfold takeRow; rw [if_pos hb]
    simp [rc23, rs23, e, hb, er]
noncomputable def t22 (T : Tab) : Tab := tabAdd T 22 (fun x : List UInt8 × Int × Int => x.1.length ≤ 1000000) (fun x => [.agg [.str x.1, .int .i64 x.2.1, .int .i64 x.2.2]]) (fun x => .tup [.str (takeRow x.1 x.2.1 x.2.2).1, .agg [.str x.1, .int .i64 (takeRow x.1 x.2.1 x.2.2).2.1, .int .i64 (takeRow x.1 x.2.1 x.2.2).2.2]])
@[simp] theorem t22_eq (t : List UInt8) (a : Int) (b : Int) (h : t.length ≤ 1000000) : t22 T 22 [.agg [.str t, .int .i64 a, .int .i64 b]] = some (.tup [.str (takeRow t a b).1, .agg [.str t, .int .i64 (takeRow t a b).2.1, .int .i64 (takeRow t a b).2.2]]) := tabAdd_eq (a := (t, a, b)) (by simp +contextual) h rfl
@[simp] theorem t22_ne {g : Nat} {xs : List AV} (h : g ≠ 22) : t22 T g xs = T g xs := tabAdd_ne h
theorem t22_ok (hT : Sound Try.prog T) : Sound Try.prog (t22 T) := tabAdd_sound hT fun x h => srow_pf hT x.1 x.2.1 x.2.2 h
noncomputable def t23 (T : Tab) : Tab := tabAdd T 23 (fun x : List UInt8 × Int × Int => x.1.length ≤ 1000000) (fun x => [.agg [.str x.1, .int .i64 x.2.1, .int .i64 x.2.2]]) (fun x => .tup [.str (takeRow x.1 x.2.1 x.2.2).1, .agg [.str x.1, .int .i64 (takeRow x.1 x.2.1 x.2.2).2.1, .int .i64 (takeRow x.1 x.2.1 x.2.2).2.2]])
@[simp] theorem t23_eq (t : List UInt8) (a : Int) (b : Int) (h : t.length ≤ 1000000) : t23 T 23 [.agg [.str t, .int .i64 a, .int .i64 b]] = some (.tup [.str (takeRow t a b).1, .agg [.str t, .int .i64 (takeRow t a b).2.1, .int .i64 (takeRow t a b).2.2]]) := tabAdd_eq (a := (t, a, b)) (by simp +contextual) h rfl
@[simp] theorem t23_ne {g : Nat} {xs : List AV} (h : g ≠ 23) : t23 T g xs = T g xs := tabAdd_ne h
theorem t23_ok (hT : Sound Try.prog T) : Sound Try.prog (t23 T) := tabAdd_sound hT fun x h => rrowS_pf hT x.1 x.2.1 x.2.2 h
end Go.Proofs.Ytmolcbipiiimgaa
