import Derived.Test.YtmolcbipiiimgaaQ6
set_option linter.unusedVariables false
set_option linter.unusedSimpArgs false
namespace Go.Proofs.Ytmolcbipiiimgaa
open Go.Proofs.Ytmolcbipiiimgaa.Pad
variable {T : Tab}
def restOf (t : List UInt8) (a b : Int) : List UInt8 := if b ≠ 0 ∨ ¬ (0 ≤ a ∧ a ≤ t.length) then [] else t.drop a.toNat
def endOf (t : List UInt8) (a b : Int) : Int := if b ≠ 0 then b else if ¬ (0 ≤ a ∧ a ≤ t.length) then 2 else if a < t.length then 4 else 0
set_option maxHeartbeats 2000000 in
theorem rest_pf (hT : Sound Try.prog T) (t : List UInt8) (a b : Int) (h : t.length ≤ 1000000) : PFx Try.prog 17 [.agg [.str t, .int .i64 a, .int .i64 b]] (.str (restOf t a b)) := by
  refine PFx_of_W (rc := rc17) (rs := rs17) Try.func17 rfl (t33_ok (t34_ok hT)) hm (by kernel_rfl) (by kernel_rfl) (by simp [Try.ntmps17]) ?_
  by_cases hb : b = 0
  · subst hb
    by_cases hv : 0 ≤ a ∧ a ≤ t.length
    · have e34 := t34_eq (T := T) t a 0 t.length ⟨by omega, by omega, by omega, h⟩
      simp [rc17, rs17, hv.1, hv.2, e34, restOf]
    · have hv' : ¬ (0 ≤ a ∧ a ≤ (t.length : Int)) := hv
      simp only [rc17, rs17, W_condI, W_seq, W_reg, W_ret, W_skip]
      simp [hv', restOf, -W_condI, ↓W_cond]
  · simp [rc17, rs17, hb, restOf]
set_option maxHeartbeats 2000000 in
theorem end_pf (hT : Sound Try.prog T) (t : List UInt8) (a b : Int) (h : t.length ≤ 1000000) : PFx Try.prog 19 [.agg [.str t, .int .i64 a, .int .i64 b]] (.int .i64 (endOf t a b)) := by
  refine PFx_of_W (rc := rc19) (rs := rs19) Try.func19 rfl (t33_ok (t36_ok hT)) hm (by kernel_rfl) (by kernel_rfl) (by simp [Try.ntmps19]) ?_
  by_cases hb : b = 0
  · subst hb
    by_cases hv : 0 ≤ a ∧ a ≤ t.length
    · have e36 := t36_eq (T := T) t a 0 ⟨hv.1, hv.2, h⟩
      simp [rc19, rs19, hv.1, hv.2, e36, endOf]
    · have hv' : ¬ (0 ≤ a ∧ a ≤ (t.length : Int)) := hv
      simp [rc19, rs19, hv', endOf]
  · simp [rc19, rs19, hb, endOf]
theorem same_pf (hT : Sound Try.prog T) (x y : List (List UInt8)) (h : x.length ≤ 1000000) : PFx Try.prog 28 [.sl (x.map .str) x.length, .sl (y.map .str) y.length] (.bool (decide (x = y))) := by
  refine PFx_of_W (rc := rc28) (rs := rs28) Try.func28 rfl hT hm (by kernel_rfl) (by kernel_rfl) (by simp [Try.ntmps28]) ?_
  by_cases hl : x.length = y.length
  · simp [rc28, rs28, hl]
    refine W_loop (fun s => ∃ k : Nat, k ≤ x.length ∧ x.take k = y.take k ∧ s = [⟨0, .sl (x.map .str) y.length, True, false⟩, ⟨1, .sl (y.map .str) y.length, True, false⟩, ⟨5, .int .i64 k, True, false⟩]) (fun s => (x.length - (s.env 5).toI).toNat) ⟨0, by omega, by simp, by simp⟩ ?_
    rintro s ⟨k, hk, hall, rfl⟩
    rcases Nat.lt_or_ge k x.length with hlt | hge
    · have hlt' : k < y.length := by omega
      obtain ⟨s, hs⟩ : ∃ s, x[k]? = some s := ⟨_, List.getElem?_eq_getElem hlt⟩
      obtain ⟨u, hu⟩ : ∃ u, y[k]? = some u := ⟨_, List.getElem?_eq_getElem hlt'⟩
      simp [hs, hu, hlt, hlt', -W_condI, ↓W_cond]
      refine ⟨hl, by omega, by omega, fun h1 h2 => by subst h2; exact h1 rfl, fun h1 => ⟨by omega, ⟨k + 1, by omega, ?_, by omega⟩, by omega⟩⟩
      rw [List.take_add_one, List.take_add_one, hall, List.getElem?_eq_getElem hlt, List.getElem?_eq_getElem hlt', h1]
    · obtain rfl : k = x.length := by omega
      simp [hl, -W_condI, ↓W_cond]
      rwa [List.take_length, hl, List.take_length] at hall
  · have hne : ¬ x = y := fun e => hl (by rw [e])
    have hi : ¬ (x.length : Int) = y.length := by omega
    simp [rc28, rs28, hi, hne]
noncomputable def t17 (T : Tab) : Tab := tabAdd T 17 (fun x : List UInt8 × Int × Int => x.1.length ≤ 1000000) (fun x => [.agg [.str x.1, .int .i64 x.2.1, .int .i64 x.2.2]]) (fun x => .str (restOf x.1 x.2.1 x.2.2))
@[simp] theorem t17_eq (t : List UInt8) (a : Int) (b : Int) (h : t.length ≤ 1000000) : t17 T 17 [.agg [.str t, .int .i64 a, .int .i64 b]] = some (.str (restOf t a b)) := tabAdd_eq (a := (t, a, b)) (by simp +contextual) h rfl
@[simp] theorem t17_ne {g : Nat} {xs : List AV} (h : g ≠ 17) : t17 T g xs = T g xs := tabAdd_ne h
theorem t17_ok (hT : Sound Try.prog T) : Sound Try.prog (t17 T) := tabAdd_sound hT fun x h => rest_pf hT x.1 x.2.1 x.2.2 h
noncomputable def t19 (T : Tab) : Tab := tabAdd T 19 (fun x : List UInt8 × Int × Int => x.1.length ≤ 1000000) (fun x => [.agg [.str x.1, .int .i64 x.2.1, .int .i64 x.2.2]]) (fun x => .int .i64 (endOf x.1 x.2.1 x.2.2))
@[simp] theorem t19_eq (t : List UInt8) (a : Int) (b : Int) (h : t.length ≤ 1000000) : t19 T 19 [.agg [.str t, .int .i64 a, .int .i64 b]] = some (.int .i64 (endOf t a b)) := tabAdd_eq (a := (t, a, b)) (by simp +contextual) h rfl
@[simp] theorem t19_ne {g : Nat} {xs : List AV} (h : g ≠ 19) : t19 T g xs = T g xs := tabAdd_ne h
theorem t19_ok (hT : Sound Try.prog T) : Sound Try.prog (t19 T) := tabAdd_sound hT fun x h => end_pf hT x.1 x.2.1 x.2.2 h
noncomputable def t28 (T : Tab) : Tab := tabAdd T 28 (fun x : List (List UInt8) × List (List UInt8) => x.1.length ≤ 1000000) (fun x => [.sl (x.1.map .str) x.1.length, .sl (x.2.map .str) x.2.length]) (fun x => .bool (decide (x.1 = x.2)))
@[simp] theorem t28_eq (l1 : List (List UInt8)) (l2 : List (List UInt8)) (h : l1.length ≤ 1000000) : t28 T 28 [.sl (l1.map .str) l1.length, .sl (l2.map .str) l2.length] = some (.bool (decide (l1 = l2))) := tabAdd_eq (a := (l1, l2)) (by rintro ⟨a1, a2⟩ ⟨b1, b2⟩; simp [strs_inj]; intro e1 e2 e3 e4; subst e1; subst e3; rfl) h rfl
@[simp] theorem t28_ne {g : Nat} {xs : List AV} (h : g ≠ 28) : t28 T g xs = T g xs := tabAdd_ne h
theorem t28_ok (hT : Sound Try.prog T) : Sound Try.prog (t28 T) := tabAdd_sound hT fun x h => same_pf hT x.1 x.2 h
end Go.Proofs.Ytmolcbipiiimgaa
