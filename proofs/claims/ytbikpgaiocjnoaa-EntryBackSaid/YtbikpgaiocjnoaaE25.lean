/- Arrays of bools, as functions of the place. -/
import Derived.Test.YtbikpgaiocjnoaaE24
set_option linter.unusedVariables false
set_option linter.unusedSimpArgs false
namespace Go.Proofs.Ytbikpgaiocjnoaa.Pad
/-- n bools, of which the i-th is f i. -/
def vecb (n : Nat) (f : Nat → Bool) : List AV := (List.range n).map fun i => .bool (f i)
@[simp] theorem vecb_len (n : Nat) (f : Nat → Bool) : (vecb n f).length = n := by simp [vecb]
theorem vecb_at (n : Nat) (f : Nat → Bool) (i : Nat) (h : i < n) : (vecb n f)[i]? = some (.bool (f i)) := by simp [vecb, h]
@[simp] theorem vecb_getD (n : Nat) (f : Nat → Bool) (i : Nat) (h : i < n) : (vecb n f).getD i .bad = .bool (f i) := by
  rw [List.getD_eq_getElem?_getD, vecb_at n f i h]; rfl
@[simp] theorem vecb_get? (n : Nat) (f : Nat → Bool) (i : Nat) (h : i < n) : (vecb n f)[i]? = some (.bool (f i)) := vecb_at n f i h
@[simp] theorem vecb_get (n : Nat) (f : Nat → Bool) (i : Nat) (h : i < (vecb n f).length) : (vecb n f)[i] = .bool (f i) := by simp [vecb]
theorem vecb_ext {n : Nat} {f g : Nat → Bool} (h : ∀ i, i < n → f i = g i) : vecb n f = vecb n g := by
  unfold vecb
  apply List.map_congr_left
  intro i hi
  rw [h i (List.mem_range.1 hi)]
@[simp] theorem vecb_inj (n : Nat) (f g : Nat → Bool) : (vecb n f = vecb n g) ↔ ∀ i, i < n → f i = g i := by
  constructor
  · intro h i hi
    have := congrArg (fun l => l[i]?) h
    simpa only [vecb_at n f i hi, vecb_at n g i hi, Option.some.injEq, AV.bool.injEq] using this
  · exact vecb_ext
theorem vecb_zero (n : Nat) : List.replicate n (AV.bool false) = vecb n fun _ => false := by
  apply List.ext_getElem
  · simp
  · intro i h1 h2
    rw [vecb_get]; simp
/-- One is set. -/
def setb (f : Nat → Bool) (k : Nat) (x : Bool) : Nat → Bool := fun i => if i = k then x else f i
theorem vecb_set (n k : Nat) (f : Nat → Bool) (x : Bool) (h : k < n) : splice (vecb n f) k [.bool x] = vecb n (setb f k x) := by
  unfold splice
  apply List.ext_getElem
  · simp; omega
  · intro i h1 h2
    rw [vecb_get]
    simp only [List.length_append, List.length_take, List.length_drop, vecb_len] at h1 h2
    unfold setb
    by_cases a1 : i < k
    · rw [List.getElem_append_left (by simp; omega), List.getElem_append_left (by simp; omega), List.getElem_take, vecb_get, if_neg (by omega)]
    · by_cases a2 : i = k
      · subst a2
        rw [List.getElem_append_left (by simp; omega), List.getElem_append_right (by simp; omega), if_pos rfl]
        simp
      · rw [List.getElem_append_right (by simp; omega), List.getElem_drop, vecb_get, if_neg a2]
        congr 2; simp; omega
@[simp] theorem vecb_mem (n : Nat) (f : Nat → Bool) (p : AV → Prop) : (∀ x, x ∈ vecb n f → p x) ↔ ∀ i, i < n → p (.bool (f i)) := by
  constructor
  · intro h i hi
    exact h _ (by rw [vecb]; exact List.mem_map.2 ⟨i, List.mem_range.2 hi, rfl⟩)
  · intro h x hx
    obtain ⟨i, hi, rfl⟩ := List.mem_map.1 hx
    exact h i (List.mem_range.1 hi)
@[simp] theorem vecb_part (n off m : Nat) (f : Nat → Bool) (h : off + m ≤ n) : ((vecb n f).drop off).take m = vecb m fun i => f (off + i) := by
  apply List.ext_getElem
  · simp; omega
  · intro i h1 h2
    rw [List.getElem_take, List.getElem_drop, vecb_get, vecb_get]
@[simp] theorem vecb_take (n m : Nat) (f : Nat → Bool) (h : m ≤ n) : (vecb n f).take m = vecb m f := by
  have := vecb_part n 0 m f (by omega)
  simpa using this
end Go.Proofs.Ytbikpgaiocjnoaa.Pad
