/- Words of any width, as numbers. -/
import Derived.Test.YtnhelmnenhphjaaE17
import Derived.Laws.BitsAllLaws
set_option linter.unusedVariables false
set_option linter.unusedSimpArgs false
namespace Go.Proofs.Ytnhelmnenhphjaa.Pad
/-- A word as a number. -/
def bv {w : Nat} (x : BitVec w) : Int := x.toNat
@[simp] theorem bv_inj {w : Nat} (x y : BitVec w) : bv x = bv y ↔ x = y := by
  unfold bv
  rw [Int.natCast_inj, BitVec.toNat_inj]
theorem bv_lo {w : Nat} (x : BitVec w) : 0 ≤ bv x := Int.natCast_nonneg _
theorem bv_hi {w : Nat} (x : BitVec w) : bv x < 2 ^ w := by
  have := x.isLt
  unfold bv
  exact_mod_cast this
theorem bv_lit {w : Nat} (n : Nat) (h : n < 2 ^ w) : (n : Int) = bv (BitVec.ofNat w n) := by
  unfold bv
  rw [BitVec.toNat_ofNat, Nat.mod_eq_of_lt h]
/-- The words' kind. -/
def kOf : Nat → IntKind
  | 8 => .u8 | 16 => .u16 | 32 => .u32 | _ => .u64
theorem bv_wrap64 (n : Nat) : IntKind.u64.wrap (n : Int) = bv (BitVec.ofNat 64 n) := by
  rw [u64_wrap]; unfold bv; rw [BitVec.toNat_ofNat]; rfl
theorem bv_wrap32 (n : Nat) : IntKind.u32.wrap (n : Int) = bv (BitVec.ofNat 32 n) := by
  rw [u32_wrap]; unfold bv; rw [BitVec.toNat_ofNat]; rfl
theorem bv_wrap16 (n : Nat) : IntKind.u16.wrap (n : Int) = bv (BitVec.ofNat 16 n) := by
  rw [u16_wrap]; unfold bv; rw [BitVec.toNat_ofNat]; rfl
theorem bv_wrap8 (n : Nat) : IntKind.u8.wrap (n : Int) = bv (BitVec.ofNat 8 n) := by
  rw [u8_wrap]; unfold bv; rw [BitVec.toNat_ofNat]; rfl
theorem bv_mul64 (x y : BitVec 64) : IntKind.u64.wrap (bv x * bv y) = bv (x * y) := by
  show IntKind.u64.wrap ((x.toNat : Int) * (y.toNat : Int)) = _
  rw [show (x.toNat : Int) * (y.toNat : Int) = ((x.toNat * y.toNat : Nat) : Int) by push_cast; rfl, bv_wrap64]
  congr 1
theorem bv_add64 (x y : BitVec 64) : IntKind.u64.wrap (bv x + bv y) = bv (x + y) := by
  show IntKind.u64.wrap ((x.toNat : Int) + (y.toNat : Int)) = _
  rw [show (x.toNat : Int) + (y.toNat : Int) = ((x.toNat + y.toNat : Nat) : Int) by push_cast; rfl, bv_wrap64]
  congr 1
theorem bv_sub64 (x y : BitVec 64) : IntKind.u64.wrap (bv x - bv y) = bv (x - y) := by
  have hx := x.isLt; have hy := y.isLt
  rw [u64_wrap]; unfold bv; rw [BitVec.toNat_sub]; omega
theorem bv_add32 (x y : BitVec 32) : IntKind.u32.wrap (bv x + bv y) = bv (x + y) := by
  show IntKind.u32.wrap ((x.toNat : Int) + (y.toNat : Int)) = _
  rw [show (x.toNat : Int) + (y.toNat : Int) = ((x.toNat + y.toNat : Nat) : Int) by push_cast; rfl, bv_wrap32]
  congr 1
theorem bv_xor64 (x y : BitVec 64) : bits .xor .u64 (bv x) (bv y) = bv (x ^^^ y) := by
  unfold bv; rw [u64_xor_nat _ _ x.isLt y.isLt, BitVec.toNat_xor]
theorem bv_and64 (x y : BitVec 64) : bits .and .u64 (bv x) (bv y) = bv (x &&& y) := by
  unfold bv; rw [u64_and_nat _ _ x.isLt y.isLt, BitVec.toNat_and]
theorem bv_or64 (x y : BitVec 64) : bits .or .u64 (bv x) (bv y) = bv (x ||| y) := by
  unfold bv; rw [u64_or_nat _ _ x.isLt y.isLt, BitVec.toNat_or]
theorem bv_xor32 (x y : BitVec 32) : bits .xor .u32 (bv x) (bv y) = bv (x ^^^ y) := by
  unfold bv; rw [u32_xor_nat _ _ x.isLt y.isLt, BitVec.toNat_xor]
theorem bv_and32 (x y : BitVec 32) : bits .and .u32 (bv x) (bv y) = bv (x &&& y) := by
  unfold bv; rw [u32_and_nat _ _ x.isLt y.isLt, BitVec.toNat_and]
theorem bv_or32 (x y : BitVec 32) : bits .or .u32 (bv x) (bv y) = bv (x ||| y) := by
  unfold bv; rw [u32_or_nat _ _ x.isLt y.isLt, BitVec.toNat_or]
theorem bv_xor8 (x y : BitVec 8) : bits .xor .u8 (bv x) (bv y) = bv (x ^^^ y) := by
  unfold bv; rw [u8_xor_nat _ _ x.isLt y.isLt, BitVec.toNat_xor]
theorem bv_and8 (x y : BitVec 8) : bits .and .u8 (bv x) (bv y) = bv (x &&& y) := by
  unfold bv; rw [u8_and_nat _ _ x.isLt y.isLt, BitVec.toNat_and]
theorem bv_or8 (x y : BitVec 8) : bits .or .u8 (bv x) (bv y) = bv (x ||| y) := by
  unfold bv; rw [u8_or_nat _ _ x.isLt y.isLt, BitVec.toNat_or]
theorem bv_shr {w : Nat} (x : BitVec w) (k : Nat) : (bv x).fdiv ((2 ^ k : Nat) : Int) = bv (x >>> k) := by
  unfold bv
  rw [Int.fdiv_eq_ediv_of_nonneg _ (Int.natCast_nonneg _), BitVec.toNat_ushiftRight, Nat.shiftRight_eq_div_pow]
  rfl
theorem bv_up {v : Nat} (w : Nat) (x : BitVec v) (h : v ≤ w) : bv x = bv (x.setWidth w) := by
  unfold bv
  have := x.isLt
  rw [BitVec.toNat_setWidth, Nat.mod_eq_of_lt (Nat.lt_of_lt_of_le this (Nat.pow_le_pow_right (by decide) h))]
theorem bv_byte (b : UInt8) : (b.toNat : Int) = bv b.toBitVec := rfl
theorem bv_byte64 (b : UInt8) : (b.toNat : Int) = bv (b.toBitVec.setWidth 64) := bv_up 64 b.toBitVec (by decide)
theorem bv_byte32 (b : UInt8) : (b.toNat : Int) = bv (b.toBitVec.setWidth 32) := bv_up 32 b.toBitVec (by decide)
theorem bv_dn32 {v : Nat} (x : BitVec v) : IntKind.u32.wrap (bv x) = bv (x.setWidth 32) := by
  rw [u32_wrap]; unfold bv; rw [BitVec.toNat_setWidth]; rfl
theorem bv_dn8 {v : Nat} (x : BitVec v) : IntKind.u8.wrap (bv x) = bv (x.setWidth 8) := by
  rw [u8_wrap]; unfold bv; rw [BitVec.toNat_setWidth]; rfl
theorem bv_dn64 {v : Nat} (x : BitVec v) : IntKind.u64.wrap (bv x) = bv (x.setWidth 64) := by
  rw [u64_wrap]; unfold bv; rw [BitVec.toNat_setWidth]; rfl
theorem bv_of {w : Nat} {n : Int} (h0 : 0 ≤ n) (h1 : n < ((2 ^ w : Nat) : Int)) : ∃ x : BitVec w, n = bv x := by
  refine ⟨BitVec.ofNat w n.toNat, ?_⟩
  unfold bv
  rw [BitVec.toNat_ofNat, Nat.mod_eq_of_lt (by omega)]
  omega
theorem bv_of64 {n : Int} (h : inK .u64 n) : ∃ x : BitVec 64, n = bv x := by simp only [inK] at h; exact bv_of h.1 (by omega)
theorem bv_of32 {n : Int} (h : inK .u32 n) : ∃ x : BitVec 32, n = bv x := by simp only [inK] at h; exact bv_of h.1 (by omega)
theorem bv_of8 {n : Int} (h : inK .u8 n) : ∃ x : BitVec 8, n = bv x := by simp only [inK] at h; exact bv_of h.1 (by omega)
theorem byte_of8 {n : Int} (h : inK .u8 n) : ∃ b : UInt8, n = (b.toNat : Int) := by
  simp only [inK] at h
  refine ⟨UInt8.ofNat n.toNat, ?_⟩
  rw [UInt8.toNat_ofNat', Nat.mod_eq_of_lt (by omega)]
  omega
theorem bv_inK64 (x : BitVec 64) : inK .u64 (bv x) := by
  have := x.isLt; simp only [inK]; unfold bv; omega
end Go.Proofs.Ytnhelmnenhphjaa.Pad
