import Derived.Test.YtmolcbipiiimgaaQ7
set_option linter.unusedVariables false
set_option linter.unusedSimpArgs false
namespace Go.Proofs.Ytmolcbipiiimgaa
open Go.Proofs.Ytmolcbipiiimgaa.Pad
variable {T : Tab}
theorem takeRow_ok {t : List UInt8} {a b : Int} (h : (takeRow t a b).2.2 = 0) : b = 0 ∧ 0 ≤ a ∧ a + 2 ≤ (takeRow t a b).2.1 ∧ (takeRow t a b).2.1 ≤ t.length := by
  unfold takeRow at h ⊢
  split at h
  · exact absurd h (by simpa using ‹_›)
  · rename_i hb
    split at h
    · simp at h
    · rename_i hs
      rw [if_neg hb, if_neg hs]
      obtain ⟨k1, k2, k3, k4, k5, k6, k7⟩ := takeNum_ok (by simpa using hb)
      refine ⟨k1, k2, ?_, ?_⟩ <;> simp only <;> omega
def splitGo (t : List UInt8) : Nat → Int → List (List UInt8) → List (List UInt8) × Int
  | 0, _, acc => (acc, 0)
  | f + 1, a, acc => if ¬ a < t.length then (acc, 0) else if acc.length = 1024 then ([], 24) else if (takeRow t a 0).2.2 ≠ 0 then ([], (takeRow t a 0).2.2)
    else splitGo t f (takeRow t a 0).2.1 (acc ++ [(takeRow t a 0).1])
def splitOf (t : List UInt8) : List (List UInt8) × Int := splitGo t (t.length + 1) 0 []
set_option maxHeartbeats 2000000 in
theorem split_pf (hT : Sound Try.prog T) (t : List UInt8) (h : t.length ≤ 1000000) : PFx Try.prog 26 [.str t] (.tup [.sl ((splitOf t).1.map .str) (splitOf t).1.length, .int .i64 (splitOf t).2]) := by
  refine PFx_of_W (rc := rc26) (rs := rs26) Try.func26 rfl (t22_ok (t36_ok hT)) hm (by kernel_rfl) (by kernel_rfl) (by simp [Try.ntmps26]) ?_
  simp [rc26, rs26]
  refine W_loop (fun s => ∃ (f : Nat) (a : Int) (acc : List (List UInt8)), 0 ≤ a ∧ a ≤ t.length ∧ t.length - a < f ∧ acc.length ≤ 1024 ∧ splitOf t = splitGo t f a acc ∧ s = [⟨4, .row 1 (acc.map .str) acc.length, True, false⟩, ⟨5, .box [.str t, .int .i64 a, .int .i64 0], True, false⟩]) (fun s => (t.length - (((s.env 5).inner.getD 1 .bad).toI)).toNat) ⟨t.length + 1, 0, [], by omega, by omega, by omega, by simp, rfl, by simp⟩ ?_
  rintro s ⟨f, a, acc, h1, h2, h3, h4, h5, rfl⟩
  have e36 := t36_eq (T := T) t a 0 ⟨h1, h2, h⟩
  have e22 := t22_eq (T := t36 T) t a 0 h
  obtain ⟨f, rfl⟩ : ∃ g, f = g + 1 := ⟨f - 1, by omega⟩
  unfold splitGo at h5
  by_cases ha : a < t.length
  · rw [if_neg (by simpa using ha)] at h5
    have ha' : 0 < (t.length : Int) - a := by omega
    by_cases hl : acc.length = 1024
    · rw [if_pos hl] at h5
      simp [e36, ha, hl, h5]
    · rw [if_neg hl] at h5
      have hl' : ¬ (acc.length : Int) = 1024 := by omega
      by_cases hb : (takeRow t a 0).2.2 = 0
      · rw [if_neg (by simpa using hb)] at h5
        obtain ⟨_, _, q1, q2⟩ := takeRow_ok hb
        simp [e36, e22, ha, hl', hb]
        exact ⟨by omega, ⟨f, _, by omega, q2, by omega, acc ++ [(takeRow t a 0).1], by simp; omega, h5, ⟨by simp, by simp⟩, rfl⟩, by omega⟩
      · rw [if_pos (by simpa using hb)] at h5
        simp [e36, e22, ha, hl', hb, h5]
  · rw [if_pos (by simpa using ha)] at h5
    have ha' : ¬ 0 < (t.length : Int) - a := by omega
    simp [e36, ha, h5]
set_option maxHeartbeats 2000000 in
theorem rsplit_pf (hT : Sound Try.prog T) (t : List UInt8) (h : t.length ≤ 1000000) : PFx Try.prog 27 [.str t] (.tup [.sl ((splitOf t).1.map .str) (splitOf t).1.length, .int .i64 (splitOf t).2]) := by
  refine PFx_of_W (rc := rc27) (rs := rs27) Try.func27 rfl (t23_ok hT) hm (by kernel_rfl) (by kernel_rfl) (by simp [Try.ntmps27]) ?_
  simp [rc27, rs27]
  refine W_loop (fun s => ∃ (f : Nat) (a : Int) (acc : List (List UInt8)), 0 ≤ a ∧ a ≤ t.length ∧ t.length - a < f ∧ acc.length ≤ 1024 ∧ splitOf t = splitGo t f a acc ∧ s = [⟨0, .str t, True, false⟩, ⟨4, .box [.str t, .int .i64 a, .int .i64 0], True, false⟩, ⟨5, .row 1 (acc.map .str) acc.length, True, false⟩]) (fun s => (t.length - (((s.env 4).inner.getD 1 .bad).toI)).toNat) ⟨t.length + 1, 0, [], by omega, by omega, by omega, by simp, rfl, by simp⟩ ?_
  rintro s ⟨f, a, acc, h1, h2, h3, h4, h5, rfl⟩
  have e23 := t23_eq (T := T) t a 0 h
  obtain ⟨f, rfl⟩ : ∃ g, f = g + 1 := ⟨f - 1, by omega⟩
  unfold splitGo at h5
  by_cases ha : a < t.length
  · rw [if_neg (by simpa using ha)] at h5
    by_cases hl : acc.length = 1024
    · rw [if_pos hl] at h5
      simp [ha, hl, h5]
    · rw [if_neg hl] at h5
      have hl' : ¬ (acc.length : Int) = 1024 := by omega
      by_cases hb : (takeRow t a 0).2.2 = 0
      · rw [if_neg (by simpa using hb)] at h5
        obtain ⟨_, _, q1, q2⟩ := takeRow_ok hb
        simp [e23, ha, hl', hb]
        exact ⟨by omega, ⟨f, _, by omega, q2, by omega, acc ++ [(takeRow t a 0).1], by simp; omega, h5, rfl, by simp, by simp⟩, by omega⟩
      · rw [if_pos (by simpa using hb)] at h5
        simp [e23, ha, hl', hb, h5]
  · rw [if_pos (by simpa using ha)] at h5
    simp [ha, h5]
noncomputable def t26 (T : Tab) : Tab := tabAdd T 26 (fun x : List UInt8 => x.length ≤ 1000000) (fun x => [.str x]) (fun x => .tup [.sl ((splitOf x).1.map .str) (splitOf x).1.length, .int .i64 (splitOf x).2])
@[simp] theorem t26_eq (t : List UInt8) (h : t.length ≤ 1000000) : t26 T 26 [.str t] = some (.tup [.sl ((splitOf t).1.map .str) (splitOf t).1.length, .int .i64 (splitOf t).2]) := tabAdd_eq (a := t) (by simp +contextual) h rfl
@[simp] theorem t26_ne {g : Nat} {xs : List AV} (h : g ≠ 26) : t26 T g xs = T g xs := tabAdd_ne h
theorem t26_ok (hT : Sound Try.prog T) : Sound Try.prog (t26 T) := tabAdd_sound hT fun x h => split_pf hT x h
noncomputable def t27 (T : Tab) : Tab := tabAdd T 27 (fun x : List UInt8 => x.length ≤ 1000000) (fun x => [.str x]) (fun x => .tup [.sl ((splitOf x).1.map .str) (splitOf x).1.length, .int .i64 (splitOf x).2])
@[simp] theorem t27_eq (t : List UInt8) (h : t.length ≤ 1000000) : t27 T 27 [.str t] = some (.tup [.sl ((splitOf t).1.map .str) (splitOf t).1.length, .int .i64 (splitOf t).2]) := tabAdd_eq (a := t) (by simp +contextual) h rfl
@[simp] theorem t27_ne {g : Nat} {xs : List AV} (h : g ≠ 27) : t27 T g xs = T g xs := tabAdd_ne h
theorem t27_ok (hT : Sound Try.prog T) : Sound Try.prog (t27 T) := tabAdd_sound hT fun x h => rsplit_pf hT x h
theorem splitGo_len (t : List UInt8) : ∀ (f : Nat) (a : Int) (acc : List (List UInt8)), acc.length ≤ 1024 → (splitGo t f a acc).1.length ≤ 1024
  | 0, _, acc, h => h
  | f + 1, a, acc, h => by
    unfold splitGo
    split
    · exact h
    · split
      · simp [-W_condI, ↓W_cond]
      · split
        · simp [-W_condI, ↓W_cond]
        · rename_i h1 _
          exact splitGo_len t f _ _ (by simp; omega)
theorem splitOf_len (t : List UInt8) : (splitOf t).1.length ≤ 1024 := splitGo_len t _ _ _ (by simp)
end Go.Proofs.Ytmolcbipiiimgaa
