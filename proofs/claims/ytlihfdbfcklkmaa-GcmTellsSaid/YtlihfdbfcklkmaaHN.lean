/- Blocks as elements of the field of 2^128; a product by coefficients. No program is in here. -/
import Derived.Test.YtlihfdbfcklkmaaHM
set_option linter.unusedVariables false
set_option linter.unusedSimpArgs false
namespace Go.Proofs.Ytlihfdbfcklkmaa.Pad.Gh
/-- The polynomial of 16 bytes, and the bytes of a polynomial. -/
def pb (f : Nat → BitVec 8) (i : Nat) : Bool := (f (i / 8)).getLsbD (7 - i % 8)
def pol (f : Nat → BitVec 8) : W := sm (pb f) X 128
def blk (a : W) (j : Nat) : BitVec 8 := sm8 a j 8
where sm8 (a : W) (j : Nat) : Nat → BitVec 8
  | 0 => 0#8
  | t + 1 => sm8 a j t ^^^ (if a.getLsbD (8 * j + (7 - t)) then 1#8 <<< t else 0#8)
theorem sm8_bit (a : W) (j i : Nat) (hi : i < 8) : ∀ t, t ≤ 8 → (blk.sm8 a j t).getLsbD i = (decide (i < t) && a.getLsbD (8 * j + (7 - i)))
  | 0, _ => by simp [blk.sm8]
  | t + 1, h => by
    rw [blk.sm8, BitVec.getLsbD_xor, sm8_bit a j i hi t (by omega)]
    have e : (if a.getLsbD (8 * j + (7 - t)) then 1#8 <<< t else 0#8).getLsbD i = (decide (i = t) && a.getLsbD (8 * j + (7 - t))) := by
      cases a.getLsbD (8 * j + (7 - t))
      · simp
      · simp only [if_true, Bool.and_true]
        by_cases h1 : i = t
        · subst h1; simp [hi]
        · simp [h1]; omega
    rw [e]
    by_cases h1 : i = t
    · subst h1; simp
    · by_cases h2 : i < t
      · simp [h1, h2, show i < t + 1 by omega]
      · simp [h1, h2, show ¬ i < t + 1 by omega]
theorem blk_bit (a : W) (j i : Nat) (hi : i < 8) : (blk a j).getLsbD i = a.getLsbD (8 * j + (7 - i)) := by
  unfold blk; rw [sm8_bit a j i hi 8 (by decide)]; simp [hi]
theorem pol_bit (f : Nat → BitVec 8) (i : Nat) : (pol f).getLsbD i = (decide (i < 128) && pb f i) := sm_bit _ i 128 (by decide)
theorem pol_blk (a : W) : pol (blk a) = a := by
  apply BitVec.eq_of_getLsbD_eq
  intro i hi
  rw [pol_bit, pb, blk_bit _ _ _ (by omega), show 8 * (i / 8) + (7 - (7 - i % 8)) = i by omega]
  simp [hi]
theorem blk_pol (f : Nat → BitVec 8) (j : Nat) (hj : j < 16) : blk (pol f) j = f j := by
  apply BitVec.eq_of_getLsbD_eq
  intro i hi
  rw [blk_bit _ _ _ hi, pol_bit, pb, show (8 * j + (7 - i)) / 8 = j by omega, show 7 - (8 * j + (7 - i)) % 8 = i by omega]
  simp; omega
theorem blk_inj (a b : W) : (∀ j, j < 16 → blk a j = blk b j) ↔ a = b := by
  constructor
  · intro h
    rw [← pol_blk a, ← pol_blk b]
    refine sm_ext (fun i hi => ?_) (fun _ _ => rfl)
    unfold pb; rw [h _ (by omega)]
  · rintro rfl _ _; rfl
theorem blk_xor (a b : W) (j : Nat) : blk (a ^^^ b) j = blk a j ^^^ blk b j := by
  apply BitVec.eq_of_getLsbD_eq
  intro i hi
  rw [BitVec.getLsbD_xor, blk_bit _ _ _ hi, blk_bit _ _ _ hi, blk_bit _ _ _ hi, BitVec.getLsbD_xor]
theorem blk_zero (j : Nat) : blk 0#128 j = 0#8 := by
  apply BitVec.eq_of_getLsbD_eq
  intro i hi
  rw [blk_bit _ _ _ hi]; simp
/-! A polynomial, and what is toggled in it -/
def tog (p : Nat → Bool) (m : Nat) (t : Bool) : Nat → Bool := fun i => p i ^^ (t && decide (i = m))
theorem ev_tog (p : Nat → Bool) (m : Nat) (t : Bool) (n : Nat) (h : m < n) : sm (tog p m t) X n = sm p X n ^^^ (if t then X m else 0#128) := by
  unfold tog
  rw [sm_p p (fun i => t && decide (i = m)) X n]
  congr 1
  cases t
  · rw [sm_ext (q := fun _ => false) (U := X) (fun i _ => by simp) (fun _ _ => rfl)]
    have : ∀ n, sm (fun _ => false) X n = 0#128 := by
      intro n; induction n with
      | zero => rfl
      | succ n ih => rw [sm, ih]; simp
    rw [this]; simp
  · rw [sm_ext (q := fun i => decide (i = m)) (U := X) (fun i _ => by simp) (fun _ _ => rfl), sm_one, if_pos h]; simp
/-- x^128 and what it leaves. -/
theorem X_red (m : Nat) : X (m + 128) = X m ^^^ X (m + 1) ^^^ X (m + 2) ^^^ X (m + 7) := by
  have h : dbls 128 1#128 = X 0 ^^^ X 1 ^^^ X 2 ^^^ X 7 := by decide +kernel
  rw [X, Nat.add_comm, ← dbls_dbls, h, dbls_add, dbls_add, dbls_add]
  simp only [X, dbls_dbls]
  rw [Nat.zero_add, Nat.add_comm 1, Nat.add_comm 2, Nat.add_comm 7]
/-- The one step of taking off. -/
def off (p : Nat → Bool) (i : Nat) : Nat → Bool := if p i then tog (tog (tog (tog p (i - 128) true) (i - 127) true) (i - 126) true) (i - 121) true else p
theorem off_ok (p : Nat → Bool) (i : Nat) (h : 128 ≤ i) : sm (off p i) X i = sm p X (i + 1) := by
  rw [sm]
  unfold off
  by_cases hp : p i = true
  · rw [if_pos hp, if_pos hp, ev_tog _ _ _ _ (by omega), ev_tog _ _ _ _ (by omega), ev_tog _ _ _ _ (by omega), ev_tog _ _ _ _ (by omega)]
    have := X_red (i - 128)
    rw [show i - 128 + 128 = i by omega, show i - 128 + 1 = i - 127 by omega, show i - 128 + 2 = i - 126 by omega, show i - 128 + 7 = i - 121 by omega] at this
    rw [this]
    simp [BitVec.xor_assoc]
  · rw [if_neg hp, if_neg hp]; simp
/-- The whole as a sum of rows. -/
theorem row_ok (a b : W) (i : Nat) : sm (bt b) (fun k => X (i + k)) 128 = dbls i b := by
  have := sm_map (f := dbls i) (fun x y => dbls_add x y i) (bt b) X 128
  rw [sm_bits] at this
  rw [this]
  exact sm_ext (fun _ _ => rfl) (fun k _ => by rw [X, X, dbls_dbls, Nat.add_comm])
end Go.Proofs.Ytlihfdbfcklkmaa.Pad.Gh
