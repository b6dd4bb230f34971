/- What the texts of a program have in common. -/
import Derived.Test.YtbikpgaiocjnoaaProg
import Derived.Test.YtbikpgaiocjnoaaE25
set_option linter.unusedVariables false
set_option linter.unusedSimpArgs false
namespace Go.Proofs.Ytbikpgaiocjnoaa
open Go.Proofs.Ytbikpgaiocjnoaa.Pad
theorem hm : Try.prog.follows .mixedOrders = true := by kernel_rfl
instance : Globs Try.prog := ⟨[]⟩
theorem b_lt (x : BitVec 8) : 0 ≤ bv x ∧ bv x < 256 := ⟨bv_lo x, by have := bv_hi x; omega⟩
/-- What is left of the bits. -/
def sh (b : BitVec 8) (k : Nat) : Nat := b.toNat / 2 ^ k
theorem sh_0 (b : BitVec 8) : (sh b 0 : Int) = bv b := by simp [sh, bv]
theorem sh_two (b : BitVec 8) (k : Nat) : ((sh b k : Nat) : Int).tdiv 2 = (sh b (k + 1) : Nat) := by
  unfold sh
  rw [Int.tdiv_eq_ediv_of_nonneg (Int.natCast_nonneg _), Nat.pow_succ, ← Nat.div_div_eq_div_mul]; omega
theorem sh_bit (b : BitVec 8) (k : Nat) : (((sh b k : Nat) : Int).tmod 2 = 1) = (b.getLsbD k = true) := by
  rw [Int.tmod_eq_emod_of_nonneg (Int.natCast_nonneg _)]
  apply propext
  unfold sh
  rw [BitVec.getLsbD, Nat.testBit_eq_decide_div_mod_eq, decide_eq_true_eq]
  omega
theorem sh_lt (b : BitVec 8) (k : Nat) : sh b k < 256 := by
  have := Nat.div_le_self b.toNat (2 ^ k)
  have := b.isLt
  unfold sh; omega
@[simp] theorem wrap8 (x : BitVec 8) : IntKind.u8.wrap (bv x) = bv x := by rw [bv_dn8]; simp
theorem tdiv8 (a : Nat) : ((a : Nat) : Int).tdiv 8 = ((a / 8 : Nat) : Int) := tdiv_nat a 8
theorem tmod8 (a : Nat) : ((a : Nat) : Int).tmod 8 = ((a % 8 : Nat) : Int) := tmod_nat a 8
theorem tdiv256 (a : Nat) : ((a : Nat) : Int).tdiv 256 = ((a / 256 : Nat) : Int) := tdiv_nat a 256
theorem tmod256 (a : Nat) : ((a : Nat) : Int).tmod 256 = ((a % 256 : Nat) : Int) := tmod_nat a 256
end Go.Proofs.Ytbikpgaiocjnoaa

