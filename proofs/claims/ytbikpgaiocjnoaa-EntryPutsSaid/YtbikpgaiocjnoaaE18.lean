/- Words of any width, as numbers. -/
import Derived.Test.YtbikpgaiocjnoaaE17
import Derived.Laws.BitsAllLaws
set_option linter.unusedVariables false
set_option linter.unusedSimpArgs false
namespace Go.Proofs.Ytbikpgaiocjnoaa.Pad
/-- A word as a number. -/
def bv {w : Nat} (x : BitVec w) : Int := x.toNat
@[simp] theorem bv_inj {w : Nat} (x y : BitVec w) : bv x = bv y ↔ x = y := by
  unfold bv
  rw [Int.natCast_inj, BitVec.toNat_inj]
theorem bv_lo {w : Nat} (x : BitVec w) : 0 ≤ bv x := Int.natCast_nonneg _
theorem bv_hi {w : Nat} (x : BitVec w) : bv x < 2 ^ w := by
  have := x.isLt
  unfold bv
  exact_mod_cast this
theorem bv_lit {w : Nat} (n : Nat) (h : n < 2 ^ w) : (n : Int) = bv (BitVec.ofNat w n) := by
  unfold bv
  rw [BitVec.toNat_ofNat, Nat.mod_eq_of_lt h]
/-- The words' kind. -/
def kOf : Nat → IntKind
  | 8 => .u8 | 16 => .u16 | 32 => .u32 | _ => .u64
theorem bv_wrap64 (n : Nat) : IntKind.u64.wrap (n : Int) = bv (BitVec.ofNat 64 n) := by
  rw [u64_wrap]; unfold bv; rw [BitVec.toNat_ofNat]; rfl
theorem bv_wrap32 (n : Nat) : IntKind.u32.wrap (n : Int) = bv (BitVec.ofNat 32 n) := by
  rw [u32_wrap]; unfold bv; rw [BitVec.toNat_ofNat]; rfl
theorem bv_wrap16 (n : Nat) : IntKind.u16.wrap (n : Int) = bv (BitVec.ofNat 16 n) := by
  rw [u16_wrap]; unfold bv; rw [BitVec.toNat_ofNat]; rfl
theorem bv_wrap8 (n : Nat) : IntKind.u8.wrap (n : Int) = bv (BitVec.ofNat 8 n) := by
  rw [u8_wrap]; unfold bv; rw [BitVec.toNat_ofNat]; rfl
theorem bv_mul64 (x y : BitVec 64) : IntKind.u64.wrap (bv x * bv y) = bv (x * y) := by
  show IntKind.u64.wrap ((x.toNat : Int) * (y.toNat : Int)) = _
  rw [show (x.toNat : Int) * (y.toNat : Int) = ((x.toNat * y.toNat : Nat) : Int) by push_cast; rfl, bv_wrap64]
  congr 1
theorem bv_add64 (x y : BitVec 64) : IntKind.u64.wrap (bv x + bv y) = bv (x + y) := by
  show IntKind.u64.wrap ((x.toNat : Int) + (y.toNat : Int)) = _
  rw [show (x.toNat : Int) + (y.toNat : Int) = ((x.toNat + y.toNat : Nat) : Int) by push_cast; rfl, bv_wrap64]
  congr 1
theorem bv_sub64 (x y : BitVec 64) : IntKind.u64.wrap (bv x - bv y) = bv (x - y) := by
  have hx := x.isLt; have hy := y.isLt
  rw [u64_wrap]; unfold bv; rw [BitVec.toNat_sub]; omega
theorem bv_add32 (x y : BitVec 32) : IntKind.u32.wrap (bv x + bv y) = bv (x + y) := by
  show IntKind.u32.wrap ((x.toNat : Int) + (y.toNat : Int)) = _
  rw [show (x.toNat : Int) + (y.toNat : Int) = ((x.toNat + y.toNat : Nat) : Int) by push_cast; rfl, bv_wrap32]
  congr 1
theorem bv_xor64 (x y : BitVec 64) : bits .xor .u64 (bv x) (bv y) = bv (x ^^^ y) := by
  unfold bv; rw [u64_xor_nat _ _ x.isLt y.isLt, BitVec.toNat_xor]
theorem bv_and64 (x y : BitVec 64) : bits .and .u64 (bv x) (bv y) = bv (x &&& y) := by
  unfold bv; rw [u64_and_nat _ _ x.isLt y.isLt, BitVec.toNat_and]
theorem bv_or64 (x y : BitVec 64) : bits .or .u64 (bv x) (bv y) = bv (x ||| y) := by
  unfold bv; rw [u64_or_nat _ _ x.isLt y.isLt, BitVec.toNat_or]
theorem bv_xor32 (x y : BitVec 32) : bits .xor .u32 (bv x) (bv y) = bv (x ^^^ y) := by
  unfold bv; rw [u32_xor_nat _ _ x.isLt y.isLt, BitVec.toNat_xor]
theorem bv_and32 (x y : BitVec 32) : bits .and .u32 (bv x) (bv y) = bv (x &&& y) := by
  unfold bv; rw [u32_and_nat _ _ x.isLt y.isLt, BitVec.toNat_and]
theorem bv_or32 (x y : BitVec 32) : bits .or .u32 (bv x) (bv y) = bv (x ||| y) := by
  unfold bv; rw [u32_or_nat _ _ x.isLt y.isLt, BitVec.toNat_or]
theorem bv_xor8 (x y : BitVec 8) : bits .xor .u8 (bv x) (bv y) = bv (x ^^^ y) := by
  unfold bv; rw [u8_xor_nat _ _ x.isLt y.isLt, BitVec.toNat_xor]
theorem bv_and8 (x y : BitVec 8) : bits .and .u8 (bv x) (bv y) = bv (x &&& y) := by
  unfold bv; rw [u8_and_nat _ _ x.isLt y.isLt, BitVec.toNat_and]
theorem bv_or8 (x y : BitVec 8) : bits .or .u8 (bv x) (bv y) = bv (x ||| y) := by
  unfold bv; rw [u8_or_nat _ _ x.isLt y.isLt, BitVec.toNat_or]
theorem bv_shr {w : Nat} (x : BitVec w) (k : Nat) : (bv x).fdiv ((2 ^ k : Nat) : Int) = bv (x >>> k) := by
  unfold bv
  rw [Int.fdiv_eq_ediv_of_nonneg _ (Int.natCast_nonneg _), BitVec.toNat_ushiftRight, Nat.shiftRight_eq_div_pow]
  rfl
theorem bv_up {v : Nat} (w : Nat) (x : BitVec v) (h : v ≤ w) : bv x = bv (x.setWidth w) := by
  unfold bv
  have := x.isLt
  rw [BitVec.toNat_setWidth, Nat.mod_eq_of_lt (Nat.lt_of_lt_of_le this (Nat.pow_le_pow_right (by decide) h))]
theorem bv_byte (b : UInt8) : (b.toNat : Int) = bv b.toBitVec := rfl
theorem bv_byte64 (b : UInt8) : (b.toNat : Int) = bv (b.toBitVec.setWidth 64) := bv_up 64 b.toBitVec (by decide)
theorem bv_byte32 (b : UInt8) : (b.toNat : Int) = bv (b.toBitVec.setWidth 32) := bv_up 32 b.toBitVec (by decide)
theorem bv_dn32 {v : Nat} (x : BitVec v) : IntKind.u32.wrap (bv x) = bv (x.setWidth 32) := by
  rw [u32_wrap]; unfold bv; rw [BitVec.toNat_setWidth]; rfl
theorem bv_dn8 {v : Nat} (x : BitVec v) : IntKind.u8.wrap (bv x) = bv (x.setWidth 8) := by
  rw [u8_wrap]; unfold bv; rw [BitVec.toNat_setWidth]; rfl
theorem bv_dn64 {v : Nat} (x : BitVec v) : IntKind.u64.wrap (bv x) = bv (x.setWidth 64) := by
  rw [u64_wrap]; unfold bv; rw [BitVec.toNat_setWidth]; rfl
theorem bv_of {w : Nat} {n : Int} (h0 : 0 ≤ n) (h1 : n < ((2 ^ w : Nat) : Int)) : ∃ x : BitVec w, n = bv x := by
  refine ⟨BitVec.ofNat w n.toNat, ?_⟩
  unfold bv
  rw [BitVec.toNat_ofNat, Nat.mod_eq_of_lt (by omega)]
  omega
theorem bv_of64 {n : Int} (h : inK .u64 n) : ∃ x : BitVec 64, n = bv x := by simp only [inK] at h; exact bv_of h.1 (by omega)
theorem bv_of32 {n : Int} (h : inK .u32 n) : ∃ x : BitVec 32, n = bv x := by simp only [inK] at h; exact bv_of h.1 (by omega)
theorem bv_of8 {n : Int} (h : inK .u8 n) : ∃ x : BitVec 8, n = bv x := by simp only [inK] at h; exact bv_of h.1 (by omega)
theorem byte_of8 {n : Int} (h : inK .u8 n) : ∃ b : UInt8, n = (b.toNat : Int) := by
  simp only [inK] at h
  refine ⟨UInt8.ofNat n.toNat, ?_⟩
  rw [UInt8.toNat_ofNat', Nat.mod_eq_of_lt (by omega)]
  omega
theorem bv_inK64 (x : BitVec 64) : inK .u64 (bv x) := by
  have := x.isLt; simp only [inK]; unfold bv; omega
/-! Numbers with a sign that are not below 0 -/
theorem ofInt_i64 (a : Nat) (h : a < 9223372036854775808) : (BitVec.ofInt 64 (a : Int)).toNat = a := by
  rw [BitVec.toNat_ofInt]; omega
theorem i64_wrap_nat (n : Nat) (h : n < 9223372036854775808) : IntKind.i64.wrap (n : Int) = n := by
  simp [IntKind.wrap, IntKind.signed, IntKind.bits]; omega
theorem i64_xor_nat (a b : Nat) (ha : a < 9223372036854775808) (hb : b < 9223372036854775808) : bits .xor .i64 (a : Int) (b : Int) = ((a ^^^ b : Nat) : Int) := by
  have hx : a ^^^ b < 2 ^ 63 := Nat.xor_lt_two_pow (by omega) (by omega)
  show IntKind.i64.wrap ((BitVec.ofInt 64 (a : Int) ^^^ BitVec.ofInt 64 (b : Int)).toNat : Int) = _
  rw [BitVec.toNat_xor, ofInt_i64 a ha, ofInt_i64 b hb, i64_wrap_nat _ (by omega)]
theorem i64_and_nat (a b : Nat) (ha : a < 9223372036854775808) (hb : b < 9223372036854775808) : bits .and .i64 (a : Int) (b : Int) = ((a &&& b : Nat) : Int) := by
  have hx : a &&& b < 2 ^ 63 := Nat.and_lt_two_pow _ (by omega)
  show IntKind.i64.wrap ((BitVec.ofInt 64 (a : Int) &&& BitVec.ofInt 64 (b : Int)).toNat : Int) = _
  rw [BitVec.toNat_and, ofInt_i64 a ha, ofInt_i64 b hb, i64_wrap_nat _ (by omega)]
theorem i64_or_nat (a b : Nat) (ha : a < 9223372036854775808) (hb : b < 9223372036854775808) : bits .or .i64 (a : Int) (b : Int) = ((a ||| b : Nat) : Int) := by
  have hx : a ||| b < 2 ^ 63 := Nat.or_lt_two_pow (by omega) (by omega)
  show IntKind.i64.wrap ((BitVec.ofInt 64 (a : Int) ||| BitVec.ofInt 64 (b : Int)).toNat : Int) = _
  rw [BitVec.toNat_or, ofInt_i64 a ha, ofInt_i64 b hb, i64_wrap_nat _ (by omega)]
/-- Small words as numbers with a sign. -/
theorem bv_xor_i {w : Nat} (x y : BitVec w) (h : w ≤ 32) : bits .xor .i64 (bv x) (bv y) = bv (x ^^^ y) := by
  have hx := x.isLt; have hy := y.isLt
  have hp : 2 ^ w ≤ 2 ^ 32 := Nat.pow_le_pow_right (by decide) h
  unfold bv
  rw [i64_xor_nat _ _ (by omega) (by omega), BitVec.toNat_xor]
/-! Shifts, and words beside numbers that are written out -/
theorem bv_shl8 (x : BitVec 8) (n : Nat) : IntKind.u8.wrap (bv x * 2 ^ min n IntKind.u8.bits) = bv (x <<< n) := by
  unfold bv
  rw [u8_wrap, BitVec.toNat_shiftLeft, Nat.shiftLeft_eq]
  rcases Nat.le_total n 8 with h | h
  · rw [show min n IntKind.u8.bits = n from Nat.min_eq_left h, show (x.toNat : Int) * 2 ^ n = ((x.toNat * 2 ^ n : Nat) : Int) by rw [Int.natCast_mul, Int.natCast_pow]; rfl]
    rfl
  · rw [show min n IntKind.u8.bits = 8 from Nat.min_eq_right h, show 2 ^ n = 2 ^ (n - 8) * 2 ^ 8 by rw [← Nat.pow_add]; congr 1; omega, ← Nat.mul_assoc, Nat.mul_mod_left]
    omega
theorem bv_shl32 (x : BitVec 32) (n : Nat) : IntKind.u32.wrap (bv x * 2 ^ min n IntKind.u32.bits) = bv (x <<< n) := by
  unfold bv
  rw [u32_wrap, BitVec.toNat_shiftLeft, Nat.shiftLeft_eq]
  rcases Nat.le_total n 32 with h | h
  · rw [show min n IntKind.u32.bits = n from Nat.min_eq_left h, show (x.toNat : Int) * 2 ^ n = ((x.toNat * 2 ^ n : Nat) : Int) by rw [Int.natCast_mul, Int.natCast_pow]; rfl]
    rfl
  · rw [show min n IntKind.u32.bits = 32 from Nat.min_eq_right h, show 2 ^ n = 2 ^ (n - 32) * 2 ^ 32 by rw [← Nat.pow_add]; congr 1; omega, ← Nat.mul_assoc, Nat.mul_mod_left]
    omega
theorem bv_shl64 (x : BitVec 64) (n : Nat) : IntKind.u64.wrap (bv x * 2 ^ min n IntKind.u64.bits) = bv (x <<< n) := by
  unfold bv
  rw [u64_wrap, BitVec.toNat_shiftLeft, Nat.shiftLeft_eq]
  rcases Nat.le_total n 64 with h | h
  · rw [show min n IntKind.u64.bits = n from Nat.min_eq_left h, show (x.toNat : Int) * 2 ^ n = ((x.toNat * 2 ^ n : Nat) : Int) by rw [Int.natCast_mul, Int.natCast_pow]; rfl]
    rfl
  · rw [show min n IntKind.u64.bits = 64 from Nat.min_eq_right h, show 2 ^ n = 2 ^ (n - 64) * 2 ^ 64 by rw [← Nat.pow_add]; congr 1; omega, ← Nat.mul_assoc, Nat.mul_mod_left]
    omega
theorem bv_shrm {w : Nat} (x : BitVec w) (n m : Nat) (h : w ≤ m) : (bv x).fdiv (2 ^ min n m) = bv (x >>> n) := by
  rcases Nat.le_total n m with hn | hn
  · rw [Nat.min_eq_left hn, ← bv_shr]; push_cast; rfl
  · rw [Nat.min_eq_right hn]
    have hx := x.isLt
    have h1 : 2 ^ w ≤ 2 ^ m := Nat.pow_le_pow_right (by decide) h
    have h2 : 2 ^ m ≤ 2 ^ n := Nat.pow_le_pow_right (by decide) hn
    rw [show ((2 : Int) ^ m) = ((2 ^ m : Nat) : Int) by push_cast; rfl, bv_shr]
    congr 1
    apply BitVec.eq_of_toNat_eq
    rw [BitVec.toNat_ushiftRight, BitVec.toNat_ushiftRight, Nat.shiftRight_eq_div_pow, Nat.shiftRight_eq_div_pow, Nat.div_eq_of_lt (by omega), Nat.div_eq_of_lt (by omega)]
theorem bv_shr8 (x : BitVec 8) (n : Nat) : (bv x).fdiv (2 ^ min n IntKind.u8.bits) = bv (x >>> n) := bv_shrm x n 8 (by decide)
theorem bv_shr32 (x : BitVec 32) (n : Nat) : (bv x).fdiv (2 ^ min n IntKind.u32.bits) = bv (x >>> n) := bv_shrm x n 32 (by decide)
theorem bv_shr64 (x : BitVec 64) (n : Nat) : (bv x).fdiv (2 ^ min n IntKind.u64.bits) = bv (x >>> n) := bv_shrm x n 64 (by decide)
theorem lit_bv {w : Nat} (n : Nat) (h : n < 2 ^ w) : (OfNat.ofNat n : Int) = bv (BitVec.ofNat w n) := bv_lit n h
theorem eq_lit {w : Nat} (x : BitVec w) (n : Nat) (h : n < 2 ^ w) : (bv x = (no_index (OfNat.ofNat n : Int))) = (x = BitVec.ofNat w n) := by rw [lit_bv n h, bv_inj]
theorem and8_lit (x : BitVec 8) (n : Nat) (h : n < 256) : bits .and .u8 (bv x) (no_index (OfNat.ofNat n : Int)) = bv (x &&& BitVec.ofNat 8 n) := by rw [lit_bv (w := 8) n h, bv_and8]
theorem xor8_lit (x : BitVec 8) (n : Nat) (h : n < 256) : bits .xor .u8 (bv x) (no_index (OfNat.ofNat n : Int)) = bv (x ^^^ BitVec.ofNat 8 n) := by rw [lit_bv (w := 8) n h, bv_xor8]
theorem or8_lit (x : BitVec 8) (n : Nat) (h : n < 256) : bits .or .u8 (bv x) (no_index (OfNat.ofNat n : Int)) = bv (x ||| BitVec.ofNat 8 n) := by rw [lit_bv (w := 8) n h, bv_or8]
theorem and32_lit (x : BitVec 32) (n : Nat) (h : n < 4294967296) : bits .and .u32 (bv x) (no_index (OfNat.ofNat n : Int)) = bv (x &&& BitVec.ofNat 32 n) := by rw [lit_bv (w := 32) n h, bv_and32]
theorem and64_lit (x : BitVec 64) (n : Nat) (h : n < 18446744073709551616) : bits .and .u64 (bv x) (no_index (OfNat.ofNat n : Int)) = bv (x &&& BitVec.ofNat 64 n) := by rw [lit_bv (w := 64) n h, bv_and64]
theorem xor64_lit (x : BitVec 64) (n : Nat) (h : n < 18446744073709551616) : bits .xor .u64 (bv x) (no_index (OfNat.ofNat n : Int)) = bv (x ^^^ BitVec.ofNat 64 n) := by rw [lit_bv (w := 64) n h, bv_xor64]
theorem lt_lit {w : Nat} (x : BitVec w) (n : Nat) (h : n < 2 ^ w) : (bv x < (no_index (OfNat.ofNat n : Int))) = (x < BitVec.ofNat w n) := by
  rw [lit_bv n h, BitVec.lt_def]; unfold bv; rw [Int.ofNat_lt]
/-! Arrays of bytes that come in -/
/-- Bytes, as words. -/
def w8s (l : List (BitVec 8)) : List AV := l.map fun b => .int .u8 (bv b)
theorem w8s_of : ∀ {ns : List Int}, (∀ y ∈ ns, inK .u8 y) → ∃ l : List (BitVec 8), ns.map (AV.int .u8) = w8s l ∧ l.length = ns.length
  | [], _ => ⟨[], rfl, rfl⟩
  | n :: ns, h => by
    obtain ⟨l, h1, h2⟩ := w8s_of (ns := ns) fun y hy => h y (List.mem_cons_of_mem _ hy)
    obtain ⟨b, rfl⟩ := bv_of8 (h n (List.mem_cons_self ..))
    exact ⟨b :: l, by simp only [List.map_cons, h1]; rfl, by simp [h2]⟩
theorem ty_arr_w8 {P : Program} {t e : TypeId} {m : Nat} {x : AV} (hu : P.underlying t = some (.array m e)) (he : P.underlying e = some (.int .u8)) (hc : P.cellsOf e = 1) (hm : P.cellsOf t = m) (h : ArgTy P t x) : ∃ l : List (BitVec 8), l.length = m ∧ x = .agg (w8s l) := by
  obtain ⟨ns, h1, rfl, h2⟩ := ty_arr_ints hu he hc hm h
  obtain ⟨l, h3, h4⟩ := w8s_of h2
  exact ⟨l, h4.trans h1, by rw [h3]⟩
theorem ty_arr2_w8 {P : Program} {t e u : TypeId} {m n : Nat} {x : AV} (hu : P.underlying t = some (.array m e)) (he : P.underlying e = some (.array n u)) (hi : P.underlying u = some (.int .u8)) (hc : P.cellsOf u = 1) (hn : P.cellsOf e = n) (hm : P.cellsOf t = m * n) (h : ArgTy P t x) : ∃ l : List (BitVec 8), l.length = m * n ∧ x = .agg (w8s l) := by
  obtain ⟨ns, h1, rfl, h2⟩ := ty_arr2_ints hu he hi hc hn hm h
  obtain ⟨l, h3, h4⟩ := w8s_of h2
  exact ⟨l, h4.trans h1, by rw [h3]⟩
end Go.Proofs.Ytbikpgaiocjnoaa.Pad
