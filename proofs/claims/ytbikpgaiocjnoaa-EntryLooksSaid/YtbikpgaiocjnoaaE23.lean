/- Arrays of bytes, as functions of the place. -/
import Derived.Test.YtbikpgaiocjnoaaE22
set_option linter.unusedVariables false
set_option linter.unusedSimpArgs false
namespace Go.Proofs.Ytbikpgaiocjnoaa.Pad
/-- n bytes, of which the i-th is f i. -/
def vec8 (n : Nat) (f : Nat → BitVec 8) : List AV := (List.range n).map fun i => .int .u8 (bv (f i))
@[simp] theorem vec8_len (n : Nat) (f : Nat → BitVec 8) : (vec8 n f).length = n := by simp [vec8]
theorem vec8_at (n : Nat) (f : Nat → BitVec 8) (i : Nat) (h : i < n) : (vec8 n f)[i]? = some (.int .u8 (bv (f i))) := by simp [vec8, h]
@[simp] theorem vec8_getD (n : Nat) (f : Nat → BitVec 8) (i : Nat) (h : i < n) : (vec8 n f).getD i .bad = .int .u8 (bv (f i)) := by
  rw [List.getD_eq_getElem?_getD, vec8_at n f i h]; rfl
@[simp] theorem vec8_get? (n : Nat) (f : Nat → BitVec 8) (i : Nat) (h : i < n) : (vec8 n f)[i]? = some (.int .u8 (bv (f i))) := vec8_at n f i h
@[simp] theorem vec8_get (n : Nat) (f : Nat → BitVec 8) (i : Nat) (h : i < (vec8 n f).length) : (vec8 n f)[i] = .int .u8 (bv (f i)) := by
  simp [vec8]
theorem vec8_ext {n : Nat} {f g : Nat → BitVec 8} (h : ∀ i, i < n → f i = g i) : vec8 n f = vec8 n g := by
  unfold vec8
  apply List.map_congr_left
  intro i hi
  rw [h i (List.mem_range.1 hi)]
@[simp] theorem vec8_inj (n : Nat) (f g : Nat → BitVec 8) : (vec8 n f = vec8 n g) ↔ ∀ i, i < n → f i = g i := by
  constructor
  · intro h i hi
    have := congrArg (fun l => l[i]?) h
    simp only [vec8_at n f i hi, vec8_at n g i hi, Option.some.injEq, AV.int.injEq, true_and, bv_inj] at this
    exact this
  · exact vec8_ext
theorem vec8_zero (n : Nat) : List.replicate n (AV.int .u8 0) = vec8 n fun _ => 0#8 := by
  apply List.ext_getElem
  · simp
  · intro i h1 h2
    rw [vec8_get]; simp [bv]
/-- A part. -/
@[simp] theorem vec8_part (n off m : Nat) (f : Nat → BitVec 8) (h : off + m ≤ n) : ((vec8 n f).drop off).take m = vec8 m fun i => f (off + i) := by
  apply List.ext_getElem
  · simp; omega
  · intro i h1 h2
    rw [List.getElem_take, List.getElem_drop, vec8_get, vec8_get]
@[simp] theorem vec8_take (n m : Nat) (f : Nat → BitVec 8) (h : m ≤ n) : (vec8 n f).take m = vec8 m f := by
  have := vec8_part n 0 m f (by omega)
  simpa using this
/-- A part that is laid anew. -/
theorem vec8_splice (n off m : Nat) (f g : Nat → BitVec 8) (h : off + m ≤ n) : splice (vec8 n f) off (vec8 m g) = vec8 n fun i => if off ≤ i ∧ i < off + m then g (i - off) else f i := by
  unfold splice
  apply List.ext_getElem
  · simp; omega
  · intro i h1 h2
    rw [vec8_get]
    simp only [List.length_append, List.length_take, List.length_drop, vec8_len] at h1 h2
    by_cases a1 : i < off
    · rw [List.getElem_append_left (by simp; omega), List.getElem_append_left (by simp; omega), List.getElem_take, vec8_get, if_neg (by omega)]
    · by_cases a2 : i < off + m
      · rw [List.getElem_append_left (by simp; omega), List.getElem_append_right (by simp; omega), vec8_get, if_pos (by omega)]
        congr 3; simp; omega
      · rw [List.getElem_append_right (by simp; omega), List.getElem_drop, vec8_get, if_neg (by omega)]
        congr 3; simp; omega
theorem vec8_set (n off : Nat) (f : Nat → BitVec 8) (x : BitVec 8) (h : off < n) : splice (vec8 n f) off [.int .u8 (bv x)] = vec8 n fun i => if i = off then x else f i := by
  rw [show [AV.int .u8 (bv x)] = vec8 1 fun _ => x from rfl, vec8_splice n off 1 f _ (by omega)]
  apply vec8_ext
  intro i _
  by_cases e : i = off
  · rw [if_pos (by omega), if_pos e]
  · rw [if_neg (by omega), if_neg e]
/-- As far as k. -/
def upto (k : Nat) (g f : Nat → BitVec 8) : Nat → BitVec 8 := fun i => if i < k then g i else f i
theorem upto_zero (g f : Nat → BitVec 8) : upto 0 g f = f := by funext i; simp [upto]
theorem upto_all (n : Nat) (g f : Nat → BitVec 8) : vec8 n (upto n g f) = vec8 n g := vec8_ext fun i hi => by simp [upto, hi]
theorem upto_at (k : Nat) (g f : Nat → BitVec 8) : upto k g f k = f k := by simp [upto]
theorem upto_set (n k : Nat) (g f : Nat → BitVec 8) (h : k < n) : splice (vec8 n (upto k g f)) k [.int .u8 (bv (g k))] = vec8 n (upto (k + 1) g f) := by
  rw [vec8_set n k _ _ h]
  apply vec8_ext
  intro i _
  unfold upto
  by_cases e : i = k
  · subst e; simp
  · rw [if_neg e]
    by_cases hi : i < k
    · rw [if_pos hi, if_pos (by omega)]
    · rw [if_neg hi, if_neg (by omega)]
@[simp] theorem fit_vec8 : ∀ (n : Nat) (f g : Nat → BitVec 8), fitS (List.replicate n .i) (vec8 n f) (vec8 n g) := by
  have key : ∀ (l : List Nat) (f g : Nat → BitVec 8), fitS (List.replicate l.length .i) (l.map fun i => AV.int .u8 (bv (f i))) (l.map fun i => AV.int .u8 (bv (g i))) := by
    intro l f g
    induction l with
    | nil => simp [fitS]
    | cons a l ih => simp [List.replicate_succ, fitS, ih]
  intro n f g
  have := key (List.range n) f g
  rwa [List.length_range] at this
@[simp] theorem eq_vec8 (n : Nat) (f g : Nat → BitVec 8) : eqAVs (vec8 n f) (vec8 n g) = decide (∀ i, i < n → f i = g i) := by
  have key : ∀ (l : List Nat), eqAVs (l.map fun i => AV.int .u8 (bv (f i))) (l.map fun i => AV.int .u8 (bv (g i))) = decide (∀ i ∈ l, f i = g i) := by
    intro l
    induction l with
    | nil => simp [eqAVs]
    | cons a l ih => simp [eqAVs, ih]
  unfold vec8
  rw [key]
  simp
@[simp] theorem vec8_mem (n : Nat) (f : Nat → BitVec 8) (p : AV → Prop) : (∀ x, x ∈ vec8 n f → p x) ↔ ∀ i, i < n → p (.int .u8 (bv (f i))) := by
  constructor
  · intro h i hi
    exact h _ (by rw [vec8]; exact List.mem_map.2 ⟨i, List.mem_range.2 hi, rfl⟩)
  · intro h x hx
    obtain ⟨i, hi, rfl⟩ := List.mem_map.1 hx
    exact h i (List.mem_range.1 hi)
theorem w8s_vec (l : List (BitVec 8)) : w8s l = vec8 l.length fun i => l.getD i 0#8 := by
  apply List.ext_getElem
  · simp [w8s]
  · intro i h1 h2
    rw [vec8_get]
    simp at h2
    simp [w8s, h2]
end Go.Proofs.Ytbikpgaiocjnoaa.Pad
