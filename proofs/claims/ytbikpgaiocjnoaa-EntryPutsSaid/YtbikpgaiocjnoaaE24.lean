/- More on arrays of bytes; remainders and quotients of what is counted. -/
import Derived.Test.YtbikpgaiocjnoaaE23
set_option linter.unusedVariables false
set_option linter.unusedSimpArgs false
namespace Go.Proofs.Ytbikpgaiocjnoaa.Pad
/-- A block that is laid behind those that are laid. -/
theorem upto_part (n k m : Nat) (g f : Nat → BitVec 8) (h : k * m + m ≤ n) : splice (vec8 n (upto (k * m) g f)) (k * m) (vec8 m fun i => g (k * m + i)) = vec8 n (upto ((k + 1) * m) g f) := by
  rw [vec8_splice n (k * m) m _ _ h]
  apply vec8_ext
  intro i _
  have e : (k + 1) * m = k * m + m := Nat.succ_mul k m
  unfold upto
  rw [e]
  by_cases h1 : k * m ≤ i ∧ i < k * m + m
  · rw [if_pos h1, if_pos h1.2, show k * m + (i - k * m) = i by omega]
  · rw [if_neg h1]
    by_cases h2 : i < k * m
    · rw [if_pos h2, if_pos (by omega)]
    · rw [if_neg h2, if_neg (by omega)]
theorem vec8_4 (f : Nat → BitVec 8) : vec8 4 f = [.int .u8 (bv (f 0)), .int .u8 (bv (f 1)), .int .u8 (bv (f 2)), .int .u8 (bv (f 3))] := rfl
theorem bytes_vec (l : List UInt8) : bytesAV l = vec8 l.length fun i => (l.getD i 0).toBitVec := by
  apply List.ext_getElem
  · simp
  · intro i h1 h2
    rw [vec8_get]
    simp at h2
    simp [bytesAV, h2, bv_byte]
theorem vec8_bytes (n : Nat) (f : Nat → BitVec 8) : (vec8 n f).map AV.byte = (List.range n).map fun i => UInt8.ofBitVec (f i) := by
  unfold vec8
  rw [List.map_map]
  apply List.map_congr_left
  intro i _
  show UInt8.ofNat (bv (f i)).toNat = _
  unfold bv
  rw [Int.toNat_natCast]
  apply UInt8.toNat_inj.1
  rw [UInt8.toNat_ofNat']
  exact Nat.mod_eq_of_lt (f i).isLt
theorem vec8_u8 (n : Nat) (f : Nat → BitVec 8) : ∀ x ∈ vec8 n f, x.isU8 := by
  rw [vec8_mem]; intro i _; trivial
@[simp] theorem vec8_u8' (n : Nat) (f : Nat → BitVec 8) : (∀ x ∈ vec8 n f, x.isU8) = True := eq_true (vec8_u8 n f)
theorem bld4 (z0 z1 z2 z3 a b c d : AV) : splice (splice (splice (splice [z0, z1, z2, z3] 0 [a]) 1 [b]) 2 [c]) 3 [d] = [a, b, c, d] := rfl
theorem tmod_nat (a b : Nat) : ((a : Nat) : Int).tmod (b : Nat) = ((a % b : Nat) : Int) := by
  rw [Int.tmod_eq_emod_of_nonneg (Int.natCast_nonneg _)]; rfl
theorem tdiv_nat (a b : Nat) : ((a : Nat) : Int).tdiv (b : Nat) = ((a / b : Nat) : Int) := by
  rw [Int.tdiv_eq_ediv_of_nonneg (Int.natCast_nonneg _)]; rfl
theorem tmod4 (a : Nat) : ((a : Nat) : Int).tmod 4 = ((a % 4 : Nat) : Int) := tmod_nat a 4
theorem tdiv4 (a : Nat) : ((a : Nat) : Int).tdiv 4 = ((a / 4 : Nat) : Int) := tdiv_nat a 4
theorem tmod16 (a : Nat) : ((a : Nat) : Int).tmod 16 = ((a % 16 : Nat) : Int) := tmod_nat a 16
theorem tdiv16 (a : Nat) : ((a : Nat) : Int).tdiv 16 = ((a / 16 : Nat) : Int) := tdiv_nat a 16
theorem cast_mul4 (a : Nat) : (4 : Int) * (a : Int) = ((4 * a : Nat) : Int) := by omega
theorem cast_add (a b : Nat) : (a : Int) + (b : Int) = ((a + b : Nat) : Int) := (Int.natCast_add a b).symm
theorem cast_mul (a b : Nat) : (a : Int) * (b : Int) = ((a * b : Nat) : Int) := (Int.natCast_mul a b).symm
theorem cast_addn (a n : Nat) : (a : Int) + (no_index (OfNat.ofNat n) : Int) = ((a + OfNat.ofNat n : Nat) : Int) := rfl
theorem cast_muln (a n : Nat) : (no_index (OfNat.ofNat n) : Int) * (a : Int) = ((OfNat.ofNat n * a : Nat) : Int) := rfl
example (a : Nat) : (a : Int) + 2 = ((a + 2 : Nat) : Int) := by simp only [cast_addn]
example (a : Nat) : 17 * (a : Int) + 1 = ((17 * a + 1 : Nat) : Int) := by simp only [cast_muln, cast_addn]
end Go.Proofs.Ytbikpgaiocjnoaa.Pad
