import Derived.Test.YtmolcbipiiimgaaQL
set_option linter.unusedVariables false
set_option linter.unusedSimpArgs false
namespace Go.Proofs.Ytmolcbipiiimgaa
open Go.Proofs.Ytmolcbipiiimgaa.Pad
variable {T : Tab}
theorem own16_pf (hT : Sound Try.prog T) (t : List UInt8) (a b : Int) : PFx Try.prog 16 [.agg [.str t, .int .i64 a, .int .i64 b]] (.agg [.str t, .int .i64 a, .int .i64 b]) := by
  refine PFx_of_W (rc := rc16) (rs := rs16) Try.func16 rfl hT hm (by kernel_rfl) (by kernel_rfl) (by simp [Try.ntmps16]) ?_
  simp [rc16, rs16]
  all_goals (rintro x ((rfl | rfl) | rfl) <;> rfl)
theorem back21_pf (hT : Sound Try.prog T) (t : List UInt8) (a b : Int) : PFx Try.prog 21 [.agg [.str t, .int .i64 a, .int .i64 b]] (.agg [.str t, .int .i64 a, .int .i64 b]) := by
  refine PFx_of_W (rc := rc21) (rs := rs21) Try.func21 rfl hT hm (by kernel_rfl) (by kernel_rfl) (by simp [Try.ntmps21]) ?_
  simp [rc21, rs21]
  all_goals (rintro x ((rfl | rfl) | rfl) <;> rfl)
theorem rrest_pf (hT : Sound Try.prog T) (t : List UInt8) (a b : Int) (h : t.length ≤ 1000000) : PFx Try.prog 18 [.agg [.str t, .int .i64 a, .int .i64 b]] (.str (restOf t a b)) := by
  refine PFx_of_W (rc := rc18) (rs := rs18) Try.func18 rfl (t35_ok hT) hm (by kernel_rfl) (by kernel_rfl) (by simp [Try.ntmps18]) ?_
  by_cases hb : b = 0
  · subst hb
    by_cases hv : 0 ≤ a ∧ a ≤ t.length
    · simp [rc18, rs18, hv.1, hv.2, restOf]
    · have hv' : ¬ (0 ≤ a ∧ a ≤ (t.length : Int)) := hv
      simp [rc18, rs18, hv', restOf]
  · simp [rc18, rs18, hb, restOf]
theorem rend_pf (hT : Sound Try.prog T) (t : List UInt8) (a b : Int) (h : t.length ≤ 1000000) : PFx Try.prog 20 [.agg [.str t, .int .i64 a, .int .i64 b]] (.int .i64 (endOf t a b)) := by
  refine PFx_of_W (rc := rc20) (rs := rs20) Try.func20 rfl (t35_ok hT) hm (by kernel_rfl) (by kernel_rfl) (by simp [Try.ntmps20]) ?_
  by_cases hb : b = 0
  · subst hb
    by_cases hv : 0 ≤ a ∧ a ≤ t.length
    · by_cases hl : a < t.length
      · have hne : ¬ a = (t.length : Int) := by omega
        simp [rc20, rs20, hv.1, hv.2, endOf, hl, hne]
      · have he : a = (t.length : Int) := by omega
        subst he
        simp [rc20, rs20, endOf]
    · have hv' : ¬ (0 ≤ a ∧ a ≤ (t.length : Int)) := hv
      simp [rc20, rs20, hv', endOf]
  · simp [rc20, rs20, hb, endOf]
noncomputable def t16 (T : Tab) : Tab := tabAdd T 16 (fun _ : List UInt8 × Int × Int => True) (fun x => [.agg [.str x.1, .int .i64 x.2.1, .int .i64 x.2.2]]) (fun x => .agg [.str x.1, .int .i64 x.2.1, .int .i64 x.2.2])
@[simp] theorem t16_eq (t : List UInt8) (a : Int) (b : Int) : t16 T 16 [.agg [.str t, .int .i64 a, .int .i64 b]] = some (.agg [.str t, .int .i64 a, .int .i64 b]) := tabAdd_eq (a := (t, a, b)) (by simp +contextual) trivial rfl
@[simp] theorem t16_ne {g : Nat} {xs : List AV} (h : g ≠ 16) : t16 T g xs = T g xs := tabAdd_ne h
theorem t16_ok (hT : Sound Try.prog T) : Sound Try.prog (t16 T) := tabAdd_sound hT fun x _ => own16_pf hT x.1 x.2.1 x.2.2
noncomputable def t21 (T : Tab) : Tab := tabAdd T 21 (fun _ : List UInt8 × Int × Int => True) (fun x => [.agg [.str x.1, .int .i64 x.2.1, .int .i64 x.2.2]]) (fun x => .agg [.str x.1, .int .i64 x.2.1, .int .i64 x.2.2])
@[simp] theorem t21_eq (t : List UInt8) (a : Int) (b : Int) : t21 T 21 [.agg [.str t, .int .i64 a, .int .i64 b]] = some (.agg [.str t, .int .i64 a, .int .i64 b]) := tabAdd_eq (a := (t, a, b)) (by simp +contextual) trivial rfl
@[simp] theorem t21_ne {g : Nat} {xs : List AV} (h : g ≠ 21) : t21 T g xs = T g xs := tabAdd_ne h
theorem t21_ok (hT : Sound Try.prog T) : Sound Try.prog (t21 T) := tabAdd_sound hT fun x _ => back21_pf hT x.1 x.2.1 x.2.2
noncomputable def t18 (T : Tab) : Tab := tabAdd T 18 (fun x : List UInt8 × Int × Int => x.1.length ≤ 1000000) (fun x => [.agg [.str x.1, .int .i64 x.2.1, .int .i64 x.2.2]]) (fun x => .str (restOf x.1 x.2.1 x.2.2))
@[simp] theorem t18_eq (t : List UInt8) (a : Int) (b : Int) (h : t.length ≤ 1000000) : t18 T 18 [.agg [.str t, .int .i64 a, .int .i64 b]] = some (.str (restOf t a b)) := tabAdd_eq (a := (t, a, b)) (by simp +contextual) h rfl
@[simp] theorem t18_ne {g : Nat} {xs : List AV} (h : g ≠ 18) : t18 T g xs = T g xs := tabAdd_ne h
theorem t18_ok (hT : Sound Try.prog T) : Sound Try.prog (t18 T) := tabAdd_sound hT fun x h => rrest_pf hT x.1 x.2.1 x.2.2 h
noncomputable def t20 (T : Tab) : Tab := tabAdd T 20 (fun x : List UInt8 × Int × Int => x.1.length ≤ 1000000) (fun x => [.agg [.str x.1, .int .i64 x.2.1, .int .i64 x.2.2]]) (fun x => .int .i64 (endOf x.1 x.2.1 x.2.2))
@[simp] theorem t20_eq (t : List UInt8) (a : Int) (b : Int) (h : t.length ≤ 1000000) : t20 T 20 [.agg [.str t, .int .i64 a, .int .i64 b]] = some (.int .i64 (endOf t a b)) := tabAdd_eq (a := (t, a, b)) (by simp +contextual) h rfl
@[simp] theorem t20_ne {g : Nat} {xs : List AV} (h : g ≠ 20) : t20 T g xs = T g xs := tabAdd_ne h
theorem t20_ok (hT : Sound Try.prog T) : Sound Try.prog (t20 T) := tabAdd_sound hT fun x h => rend_pf hT x.1 x.2.1 x.2.2 h
set_option maxRecDepth 100000 in
set_option maxHeartbeats 8000000 in
theorem lawScans_pf (t : List UInt8) (a b : Int) (zs : List Int) (hz : zs.length ≤ 9223372036854775807) :
    PFx Try.prog 4 [.agg [.str t, .int .i64 a, .int .i64 b], .sl (zs.map (.int .i64)) zs.length] (.bool true) := by
  refine PFx_of_W (rc := rc4) (rs := rs4) Try.func4 rfl (t9_ok (t16_ok (t17_ok (t18_ok (t19_ok (t20_ok (t21_ok (t22_ok (t23_ok (t24_ok (t25_ok tabNil_sound))))))))))) hm (by kernel_rfl) (by kernel_rfl) (by simp [Try.ntmps4]) ?_
  by_cases ht : t.length ≤ 400
  · have ht1 : ¬ (400 : Int) < t.length := by omega
    have ht2 : t.length ≤ 1000000 := by omega
    by_cases hs : zs.length ≤ 40
    · have hs1 : ¬ (40 : Int) < zs.length := by omega
      simp [rc4, rs4, ht1, hs1]
      refine W_loop (fun s => ∃ (k : Nat) (a b : Int), k ≤ zs.length ∧ s = [⟨1, .sl (zs.map (.int .i64)) zs.length, True, false⟩, ⟨2, .box [.str t, .int .i64 a, .int .i64 b], True, false⟩, ⟨5, .box [.str t, .int .i64 a, .int .i64 b], True, false⟩, ⟨6, .int .i64 k, True, false⟩]) (fun s => (zs.length + 1 - (s.env 6).toI).toNat) ⟨0, a, b, by omega, by simp⟩ ?_
      rintro s ⟨k, a, b, hk, rfl⟩
      have hk1 : (k : Int) ≤ zs.length := by omega
      rcases Nat.lt_or_ge k zs.length with hlt | hge
      · have hne : ¬ (k : Int) = zs.length := by omega
        by_cases hn : zs[k] < 0
        · simp [hk1, hne, ht2, hlt, hn]
          exact ⟨by omega, by omega, ⟨k + 1, by omega, by omega⟩, by omega⟩
        · simp [hk1, hne, ht2, hlt, hn]
          exact ⟨by omega, by omega, ⟨k + 1, by omega, by omega⟩, by omega⟩
      · obtain rfl : k = zs.length := by omega
        simp [ht2]
    · have hs1 : (40 : Int) < zs.length := by omega
      simp [rc4, rs4, ht1, hs1]
  · have ht1 : (400 : Int) < t.length := by omega
    simp [rc4, rs4, ht1]
end Go.Proofs.Ytmolcbipiiimgaa
