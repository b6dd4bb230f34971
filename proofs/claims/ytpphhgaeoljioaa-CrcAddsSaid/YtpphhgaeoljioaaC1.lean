/- shift, Step, Feed, Sum, Skip, of crc and of the document. -/
import Derived.Test.YtpphhgaeoljioaaC0
import Derived.Test.YtpphhgaeoljioaaCM
import Derived.Laws.BitsAllLaws
namespace Go.Proofs.Ytpphhgaeoljioaa
open Go.Proofs.Ytpphhgaeoljioaa.Pad Go.Proofs.Ytpphhgaeoljioaa.Pad.Crc
theorem hm : Try.prog.follows .mixedOrders = true := by kernel_rfl
theorem T0_ok : Sound Try.prog tabNil := tabNil_sound
abbrev T0 : Tab := tabNil
/-- A register, as a number. -/
def rg (x : B) : Int := x.toNat
@[simp] theorem rg_inj (x y : B) : rg x = rg y ↔ x = y := by
  unfold rg
  rw [Int.natCast_inj, BitVec.toNat_inj]
theorem rg_lo (x : B) : 0 ≤ rg x := Int.natCast_nonneg _
theorem rg_hi (x : B) : rg x < 4294967296 := by have := x.isLt; unfold rg; omega
def low (x : B) : Bool := x.getLsbD 0
theorem low_eq (x : B) : low x = decide (x.toNat % 2 = 1) := by
  rw [low, BitVec.getLsbD, Nat.testBit_zero]
theorem sh_low (x : B) : sh x = if low x = true then (x >>> 1) ^^^ poly else x >>> 1 := rfl
theorem bx_xor (x y : B) : bits .xor .u32 (rg x) (rg y) = rg (x ^^^ y) := by
  unfold rg
  rw [u32_xor_nat _ _ x.isLt y.isLt, BitVec.toNat_xor]
theorem bx_poly (x : B) : bits .xor .u32 (rg x) 3988292384 = rg (x ^^^ poly) := bx_xor x poly
theorem bx_and (x : B) : bits .and .u32 (rg x) 1 = if low x = true then 1 else 0 := by
  have := u32_and_nat x.toNat 1 x.isLt (by decide)
  rw [show ((1 : Nat) : Int) = 1 from rfl] at this
  unfold rg
  rw [this, Nat.and_one_is_mod, low_eq]
  rcases Nat.mod_two_eq_zero_or_one x.toNat with h | h <;> simp [h]
theorem bx_shr (x : B) : (rg x).fdiv 2 = rg (x >>> 1) := by
  unfold rg
  rw [Int.fdiv_eq_ediv_of_nonneg _ (by decide), BitVec.toNat_ushiftRight, Nat.shiftRight_eq_div_pow]
  omega
theorem bx_rem (x : B) : (rg x).tmod 2 = if low x = true then 1 else 0 := by
  unfold rg
  rw [Int.tmod_eq_emod_of_nonneg (Int.natCast_nonneg _), low_eq]
  rcases Nat.mod_two_eq_zero_or_one x.toNat with h | h <;> simp [h] <;> omega
theorem bx_quo (x : B) : IntKind.u32.wrap ((rg x).tdiv 2) = rg (x >>> 1) := by
  have h2 := rg_hi x; have h1 := rg_lo x
  rw [← bx_shr, Int.tdiv_eq_ediv_of_nonneg h1, Int.fdiv_eq_ediv_of_nonneg _ (by decide)]
  simp [IntKind.wrap, IntKind.signed, IntKind.bits]
  omega
theorem bx_byte (x : B) (b : UInt8) : bits .xor .u32 (rg x) (b.toNat : Int) = rg (x ^^^ byteV b) := by
  rw [← bx_xor]
  congr 1
  have := b.toNat_lt
  unfold rg
  simp only [byteV, BitVec.toNat_ofNat]
  rw [Nat.mod_eq_of_lt (by omega)]
theorem shift_pf (x : B) : PFx Try.prog 22 [.int .u32 (rg x)] (.int .u32 (rg (sh x))) := by
  refine PFx_of_W (rc := rc22) (rs := rs22) Try.func22 rfl T0_ok hm (by kernel_rfl) (by kernel_rfl) (by simp [Try.ntmps22]) ?_
  rw [sh_low]
  cases h : low x <;> simp [rc22, rs22, IntKind.bits, bx_and, bx_shr, bx_poly, h]
noncomputable def T22 : Tab := tabAdd T0 22 (fun _ : B => True) (fun z => [.int .u32 (rg z)]) (fun z => .int .u32 (rg (sh z)))
@[simp] theorem T22_eq (x : B)  : T22 22 [.int .u32 (rg x)] = some (.int .u32 (rg (sh x))) := tabAdd_eq (a := x) (by simp +contextual) trivial rfl
@[simp] theorem T22_ne {g : Nat} {xs : List AV} (h : g ≠ 22) : T22 g xs = T0 g xs := tabAdd_ne h
theorem T22_ok : Sound Try.prog T22 := tabAdd_sound T0_ok fun z _ => shift_pf z 
theorem rshift_pf (x : B) : PFx Try.prog 23 [.int .u32 (rg x)] (.int .u32 (rg (sh x))) := by
  refine PFx_of_W (rc := rc23) (rs := rs23) Try.func23 rfl T22_ok hm (by kernel_rfl) (by kernel_rfl) (by simp [Try.ntmps23]) ?_
  rw [sh_low]
  cases h : low x <;> simp [rc23, rs23, IntKind.bits, bx_rem, bx_quo, bx_poly, h]
noncomputable def T23 : Tab := tabAdd T22 23 (fun _ : B => True) (fun z => [.int .u32 (rg z)]) (fun z => .int .u32 (rg (sh z)))
@[simp] theorem T23_eq (x : B)  : T23 23 [.int .u32 (rg x)] = some (.int .u32 (rg (sh x))) := tabAdd_eq (a := x) (by simp +contextual) trivial rfl
@[simp] theorem T23_ne {g : Nat} {xs : List AV} (h : g ≠ 23) : T23 g xs = T22 g xs := tabAdd_ne h
theorem T23_ok : Sound Try.prog T23 := tabAdd_sound T22_ok fun z _ => rshift_pf z 
theorem step_pf (x : B) (b : UInt8) : PFx Try.prog 9 [.int .u32 (rg x), .int .u8 b.toNat] (.int .u32 (rg (stepB x b))) := by
  refine PFx_of_W (rc := rc9) (rs := rs9) Try.func9 rfl T23_ok hm (by kernel_rfl) (by kernel_rfl) (by simp [Try.ntmps9]) ?_
  have hb := b.toNat_lt
  simp [rc9, rs9, bx_byte]
  refine ⟨by omega, W_loop (fun s => ∃ k : Nat, k ≤ 8 ∧ s = [⟨0, .int .u32 (rg (shN k (x ^^^ byteV b))), True, false⟩, ⟨9, .int .i64 k, True, false⟩]) (fun s => (8 - (s.env 9).toI).toNat) ⟨0, by omega, by simp [shN]⟩ ?_⟩
  rintro s ⟨k, hk, rfl⟩
  by_cases h : k < 8
  · have h' : (k : Int) < 8 := by omega
    simp [h']
    exact ⟨by omega, ⟨k + 1, by omega, rfl, by omega⟩, by omega⟩
  · obtain rfl : k = 8 := by omega
    simp [stepB]
noncomputable def T9 : Tab := tabAdd T23 9 (fun _ : B × UInt8 => True) (fun z => [.int .u32 (rg z.1), .int .u8 z.2.toNat]) (fun z => .int .u32 (rg (stepB z.1 z.2)))
@[simp] theorem T9_eq (x : B) (b : UInt8)  : T9 9 [.int .u32 (rg x), .int .u8 b.toNat] = some (.int .u32 (rg (stepB x b))) := tabAdd_eq (a := (x, b)) (by simp +contextual) trivial rfl
@[simp] theorem T9_ne {g : Nat} {xs : List AV} (h : g ≠ 9) : T9 g xs = T23 g xs := tabAdd_ne h
theorem T9_ok : Sound Try.prog T9 := tabAdd_sound T23_ok fun z _ => step_pf z.1 z.2 
theorem rstep_pf (x : B) (b : UInt8) : PFx Try.prog 10 [.int .u32 (rg x), .int .u8 b.toNat] (.int .u32 (rg (stepB x b))) := by
  refine PFx_of_W (rc := rc10) (rs := rs10) Try.func10 rfl T9_ok hm (by kernel_rfl) (by kernel_rfl) (by simp [Try.ntmps10]) ?_
  have hb := b.toNat_lt
  simp [rc10, rs10, bx_byte]
  refine ⟨by omega, W_loop (fun s => ∃ k : Nat, k ≤ 8 ∧ s = [⟨0, .int .u32 (rg (shN k (x ^^^ byteV b))), True, false⟩, ⟨5, .int .i64 k, True, false⟩]) (fun s => (8 - (s.env 5).toI).toNat) ⟨0, by omega, by simp [shN]⟩ ?_⟩
  rintro s ⟨k, hk, rfl⟩
  by_cases h : k < 8
  · have h' : (k : Int) < 8 := by omega
    simp [h']
    exact ⟨by omega, ⟨k + 1, by omega, rfl, by omega⟩, by omega⟩
  · obtain rfl : k = 8 := by omega
    simp [stepB]
noncomputable def T10 : Tab := tabAdd T9 10 (fun _ : B × UInt8 => True) (fun z => [.int .u32 (rg z.1), .int .u8 z.2.toNat]) (fun z => .int .u32 (rg (stepB z.1 z.2)))
@[simp] theorem T10_eq (x : B) (b : UInt8)  : T10 10 [.int .u32 (rg x), .int .u8 b.toNat] = some (.int .u32 (rg (stepB x b))) := tabAdd_eq (a := (x, b)) (by simp +contextual) trivial rfl
@[simp] theorem T10_ne {g : Nat} {xs : List AV} (h : g ≠ 10) : T10 g xs = T9 g xs := tabAdd_ne h
theorem T10_ok : Sound Try.prog T10 := tabAdd_sound T9_ok fun z _ => rstep_pf z.1 z.2 
theorem feed_pf (x : B) (l : List UInt8) (h : l.length ≤ 1000000) : PFx Try.prog 11 [.int .u32 (rg x), .str l] (.int .u32 (rg (feed x l))) := by
  refine PFx_of_W (rc := rc11) (rs := rs11) Try.func11 rfl T10_ok hm (by kernel_rfl) (by kernel_rfl) (by simp [Try.ntmps11]) ?_
  simp [rc11, rs11]
  refine W_loop (fun s => ∃ k : Nat, k ≤ l.length ∧ s = [⟨0, .int .u32 (rg (feed x (l.take k))), True, false⟩, ⟨1, .str l, True, false⟩, ⟨7, .int .i64 l.length, True, false⟩, ⟨8, .int .i64 k, True, false⟩]) (fun s => (l.length - (s.env 8).toI).toNat) ⟨0, by omega, by simp [feed]⟩ ?_
  rintro s ⟨k, hk, rfl⟩
  by_cases hl : k < l.length
  · have h' : (k : Int) < l.length := by omega
    simp [hl]
    exact ⟨by omega, ⟨k + 1, by omega, by rw [take_one l k hl, feed_snoc], by omega⟩, by omega⟩
  · obtain rfl : k = l.length := by omega
    simp
noncomputable def T11 : Tab := tabAdd T10 11 (fun z : B × (List UInt8) => z.2.length ≤ 1000000) (fun z => [.int .u32 (rg z.1), .str z.2]) (fun z => .int .u32 (rg (feed z.1 z.2)))
@[simp] theorem T11_eq (x : B) (l : List UInt8) (h : l.length ≤ 1000000) : T11 11 [.int .u32 (rg x), .str l] = some (.int .u32 (rg (feed x l))) := tabAdd_eq (a := (x, l)) (by simp +contextual) h rfl
@[simp] theorem T11_ne {g : Nat} {xs : List AV} (h : g ≠ 11) : T11 g xs = T10 g xs := tabAdd_ne h
theorem T11_ok : Sound Try.prog T11 := tabAdd_sound T10_ok fun z h => feed_pf z.1 z.2 h
theorem rfeed_pf (x : B) (l : List UInt8) (h : l.length ≤ 1000000) : PFx Try.prog 12 [.int .u32 (rg x), .str l] (.int .u32 (rg (feed x l))) := by
  refine PFx_of_W (rc := rc12) (rs := rs12) Try.func12 rfl T11_ok hm (by kernel_rfl) (by kernel_rfl) (by simp [Try.ntmps12]) ?_
  simp [rc12, rs12]
  refine W_loop (fun s => ∃ k : Nat, k ≤ l.length ∧ s = [⟨0, .int .u32 (rg (feed x (l.take k))), True, false⟩, ⟨1, .str l, True, false⟩, ⟨5, .int .i64 k, True, false⟩]) (fun s => (l.length - (s.env 5).toI).toNat) ⟨0, by omega, by simp [feed]⟩ ?_
  rintro s ⟨k, hk, rfl⟩
  by_cases hl : k < l.length
  · have h' : (k : Int) < l.length := by omega
    simp [hl]
    exact ⟨by omega, ⟨k + 1, by omega, by rw [take_one l k hl, feed_snoc], by omega⟩, by omega⟩
  · obtain rfl : k = l.length := by omega
    simp
noncomputable def T12 : Tab := tabAdd T11 12 (fun z : B × (List UInt8) => z.2.length ≤ 1000000) (fun z => [.int .u32 (rg z.1), .str z.2]) (fun z => .int .u32 (rg (feed z.1 z.2)))
@[simp] theorem T12_eq (x : B) (l : List UInt8) (h : l.length ≤ 1000000) : T12 12 [.int .u32 (rg x), .str l] = some (.int .u32 (rg (feed x l))) := tabAdd_eq (a := (x, l)) (by simp +contextual) h rfl
@[simp] theorem T12_ne {g : Nat} {xs : List AV} (h : g ≠ 12) : T12 g xs = T11 g xs := tabAdd_ne h
theorem T12_ok : Sound Try.prog T12 := tabAdd_sound T11_ok fun z h => rfeed_pf z.1 z.2 h
theorem bx_not (x : B) : bits .xor .u32 4294967295 (rg x) = rg (~~~ x) := by
  rw [not_eq, BitVec.xor_comm]
  exact bx_xor reg0 x
theorem bx_neg (x : B) : IntKind.u32.wrap (4294967295 - rg x) = rg (~~~ x) := by
  have h1 := rg_lo x; have h2 := rg_hi x
  unfold rg at *
  simp only [BitVec.toNat_not]
  simp [IntKind.wrap, IntKind.signed, IntKind.bits]
  omega
theorem sum_pf (l : List UInt8) (h : l.length ≤ 1000000) : PFx Try.prog 13 [.str l] (.int .u32 (rg (sum l))) := by
  refine PFx_of_W (rc := rc13) (rs := rs13) Try.func13 rfl T12_ok hm (by kernel_rfl) (by kernel_rfl) (by simp [Try.ntmps13]) ?_
  have e : T11 11 [.int .u32 4294967295, .str l] = some (.int .u32 (rg (feed reg0 l))) := T11_eq reg0 l h
  simp [rc13, rs13, e, sum, IntKind.signed, IntKind.max, IntKind.bits, bx_not]
noncomputable def T13 : Tab := tabAdd T12 13 (fun z : (List UInt8) => z.length ≤ 1000000) (fun z => [.str z]) (fun z => .int .u32 (rg (sum z)))
@[simp] theorem T13_eq (l : List UInt8) (h : l.length ≤ 1000000) : T13 13 [.str l] = some (.int .u32 (rg (sum l))) := tabAdd_eq (a := l) (by simp +contextual) h rfl
@[simp] theorem T13_ne {g : Nat} {xs : List AV} (h : g ≠ 13) : T13 g xs = T12 g xs := tabAdd_ne h
theorem T13_ok : Sound Try.prog T13 := tabAdd_sound T12_ok fun z h => sum_pf z h
theorem rsum_pf (l : List UInt8) (h : l.length ≤ 1000000) : PFx Try.prog 14 [.str l] (.int .u32 (rg (sum l))) := by
  refine PFx_of_W (rc := rc14) (rs := rs14) Try.func14 rfl T13_ok hm (by kernel_rfl) (by kernel_rfl) (by simp [Try.ntmps14]) ?_
  have e : T12 12 [.int .u32 4294967295, .str l] = some (.int .u32 (rg (feed reg0 l))) := T12_eq reg0 l h
  simp [rc14, rs14, e, sum, bx_neg]
noncomputable def T14 : Tab := tabAdd T13 14 (fun z : (List UInt8) => z.length ≤ 1000000) (fun z => [.str z]) (fun z => .int .u32 (rg (sum z)))
@[simp] theorem T14_eq (l : List UInt8) (h : l.length ≤ 1000000) : T14 14 [.str l] = some (.int .u32 (rg (sum l))) := tabAdd_eq (a := l) (by simp +contextual) h rfl
@[simp] theorem T14_ne {g : Nat} {xs : List AV} (h : g ≠ 14) : T14 g xs = T13 g xs := tabAdd_ne h
theorem T14_ok : Sound Try.prog T14 := tabAdd_sound T13_ok fun z h => rsum_pf z h
theorem i64_and1 (x : Int) (h0 : 0 ≤ x) (h1 : x < 9223372036854775808) : bits .and .i64 x 1 = x % 2 := by
  have := bits_mask .i64 63 (by decide) (fun n a b => wrap_inK (by simp only [inK]; omega)) 1 (by omega) x h0 (by omega)
  simpa using this
theorem bx_shrN (x : B) (k : Nat) : (rg x).fdiv (2 ^ k) = rg (x >>> k) := by
  unfold rg
  rw [Int.fdiv_eq_ediv_of_nonneg _ (by exact Int.natCast_nonneg (2 ^ k)), BitVec.toNat_ushiftRight, Nat.shiftRight_eq_div_pow]
  simp
theorem low_shr (x : B) (k : Nat) : low (x >>> k) = x.getLsbD k := by
  unfold low
  rw [BitVec.getLsbD_ushiftRight, Nat.add_zero]
theorem times_pf (a b : B) : PFx Try.prog 24 [.int .u32 (rg a), .int .u32 (rg b)] (.int .u32 (rg (mul a b))) := by
  refine PFx_of_W (rc := rc24) (rs := rs24) Try.func24 rfl T14_ok hm (by kernel_rfl) (by kernel_rfl) (by simp [Try.ntmps24]) ?_
  simp [rc24, rs24]
  refine W_loop (fun s => ∃ k : Nat, k ≤ 32 ∧ s = [⟨0, .int .u32 (rg a), True, false⟩, ⟨1, .int .u32 (rg (shN k b)), True, false⟩, ⟨5, .int .u32 (rg (tmS a b k)), True, false⟩, ⟨7, .int .i64 k, True, false⟩]) (fun s => (32 - (s.env 7).toI).toNat) ⟨0, by omega, by simp [shN, tmS]; rfl⟩ ?_
  rintro s ⟨k, hk, rfl⟩
  by_cases hl : k < 32
  · have h' : (k : Int) < 32 := by omega
    have e1 : min (31 - k) IntKind.u32.bits = 31 - k := by simp [IntKind.bits]; omega
    have e2 := low_shr a (31 - k)
    cases hb : a.getLsbD (31 - k) <;> rw [hb] at e2
    · simp [h', e1, bx_shrN, bx_and, e2]
      exact ⟨by omega, by omega, by omega, ⟨k + 1, by omega, rfl, by simp [tmS, hb], by omega⟩, by omega⟩
    · simp [h', e1, bx_shrN, bx_and, e2, bx_xor]
      exact ⟨by omega, by omega, by omega, ⟨k + 1, by omega, rfl, by simp [tmS, hb], by omega⟩, by omega⟩
  · obtain rfl : k = 32 := by omega
    simp [mul]
noncomputable def T24 : Tab := tabAdd T14 24 (fun _ : B × B => True) (fun z => [.int .u32 (rg z.1), .int .u32 (rg z.2)]) (fun z => .int .u32 (rg (mul z.1 z.2)))
@[simp] theorem T24_eq (a : B) (b : B)  : T24 24 [.int .u32 (rg a), .int .u32 (rg b)] = some (.int .u32 (rg (mul a b))) := tabAdd_eq (a := (a, b)) (by simp +contextual) trivial rfl
@[simp] theorem T24_ne {g : Nat} {xs : List AV} (h : g ≠ 24) : T24 g xs = T14 g xs := tabAdd_ne h
theorem T24_ok : Sound Try.prog T24 := tabAdd_sound T14_ok fun z _ => times_pf z.1 z.2 
/-- What Skip skips. -/
def skipC (n : Int) : Nat := (if 1073741824 < n then 1073741824 else n).toNat
theorem skip_pf (x : B) (n : Int) : PFx Try.prog 15 [.int .u32 (rg x), .int .i64 n] (.int .u32 (rg (skipN (skipC n) x))) := by
  refine PFx_of_W (rc := rc15) (rs := rs15) Try.func15 rfl T24_ok hm (by kernel_rfl) (by kernel_rfl) (by simp [Try.ntmps15]) ?_
  simp [rc15, rs15]
  refine W_loop (fun s => ∃ (k : Nat) (m : Int) (y : B), m ≤ 1073741824 ∧ shN (8 * 2 ^ k * m.toNat) y = skipN (skipC n) x ∧ s = [⟨0, .int .u32 (rg y), True, false⟩, ⟨1, .int .i64 m, True, false⟩, ⟨5, .int .u32 (rg (shN (8 * 2 ^ k) Crc.one)), True, false⟩]) (fun s => ((s.env 1).toI).toNat) ⟨0, if 1073741824 < n then 1073741824 else n, x, ?_, ?_, ?_⟩ ?_
  · split <;> omega
  · rw [skipN_eq]; rfl
  · simp; rfl
  rintro s ⟨k, m, y, hm1, hy, rfl⟩
  by_cases hl : 0 < m
  · have e1 := i64_and1 m (by omega) (by omega)
    have e2 : Int.fdiv m 2 = m / 2 := Int.fdiv_eq_ediv_of_nonneg _ (by decide)
    have e3 : mul (shN (8 * 2 ^ k) Crc.one) (shN (8 * 2 ^ k) Crc.one) = shN (8 * 2 ^ (k + 1)) Crc.one := by
      rw [mul_pow, ← shN_add]; congr 1; rw [Nat.pow_succ]; omega
    have e4 : 8 * 2 ^ (k + 1) * (m / 2).toNat = 8 * 2 ^ k * (2 * (m / 2).toNat) := by rw [Nat.pow_succ]; simp only [Nat.mul_assoc]
    by_cases ho : m % 2 = 1
    · simp [hl, e1, ho, e2, e3, mul_pow, IntKind.bits]
      refine ⟨⟨k + 1, m / 2, by omega, shN (8 * 2 ^ k) y, ?_, rfl, rfl, rfl⟩, by omega⟩
      rw [← hy, e4, ← shN_add]
      congr 1
      have : m.toNat = 2 * (m / 2).toNat + 1 := by omega
      rw [this, Nat.mul_add]; omega
    · simp [hl, e1, ho, e2, e3, mul_pow, IntKind.bits]
      refine ⟨⟨k + 1, m / 2, by omega, y, ?_, rfl, rfl, rfl⟩, by omega⟩
      rw [← hy, e4]
      congr 2
      omega
  · have : m.toNat = 0 := by omega
    rw [this] at hy
    simp [hl, ← hy, shN]
noncomputable def T15 : Tab := tabAdd T24 15 (fun _ : B × Int => True) (fun z => [.int .u32 (rg z.1), .int .i64 z.2]) (fun z => .int .u32 (rg (skipN (skipC z.2) z.1)))
@[simp] theorem T15_eq (x : B) (n : Int)  : T15 15 [.int .u32 (rg x), .int .i64 n] = some (.int .u32 (rg (skipN (skipC n) x))) := tabAdd_eq (a := (x, n)) (by simp +contextual) trivial rfl
@[simp] theorem T15_ne {g : Nat} {xs : List AV} (h : g ≠ 15) : T15 g xs = T24 g xs := tabAdd_ne h
theorem T15_ok : Sound Try.prog T15 := tabAdd_sound T24_ok fun z _ => skip_pf z.1 z.2 
theorem rskip_pf (x : B) (n : Int) (h : n ≤ 1000000) : PFx Try.prog 16 [.int .u32 (rg x), .int .i64 n] (.int .u32 (rg (skipN n.toNat x))) := by
  refine PFx_of_W (rc := rc16) (rs := rs16) Try.func16 rfl T15_ok hm (by kernel_rfl) (by kernel_rfl) (by simp [Try.ntmps16]) ?_
  have e : ∀ y : B, T10 10 [.int .u32 (rg y), .int .u8 0] = some (.int .u32 (rg (stepB y 0))) := fun y => T10_eq y 0
  simp [rc16, rs16]
  refine W_loop (fun s => ∃ k : Nat, k ≤ n.toNat ∧ s = [⟨0, .int .u32 (rg (skipN k x)), True, false⟩, ⟨1, .int .i64 n, True, false⟩, ⟨5, .int .i64 k, True, false⟩]) (fun s => (n - (s.env 5).toI).toNat) ⟨0, by omega, by simp [skipN]⟩ ?_
  rintro s ⟨k, hk, rfl⟩
  by_cases hl : (k : Int) < n
  · simp [hl, e]
    exact ⟨by omega, ⟨k + 1, by omega, by simp [skipN], by omega⟩, by omega⟩
  · obtain rfl : k = n.toNat := by omega
    simp
    omega
noncomputable def T16 : Tab := tabAdd T15 16 (fun z : B × Int => z.2 ≤ 1000000) (fun z => [.int .u32 (rg z.1), .int .i64 z.2]) (fun z => .int .u32 (rg (skipN z.2.toNat z.1)))
@[simp] theorem T16_eq (x : B) (n : Int) (h : n ≤ 1000000) : T16 16 [.int .u32 (rg x), .int .i64 n] = some (.int .u32 (rg (skipN n.toNat x))) := tabAdd_eq (a := (x, n)) (by simp +contextual) h rfl
@[simp] theorem T16_ne {g : Nat} {xs : List AV} (h : g ≠ 16) : T16 g xs = T15 g xs := tabAdd_ne h
theorem T16_ok : Sound Try.prog T16 := tabAdd_sound T15_ok fun z h => rskip_pf z.1 z.2 h
end Go.Proofs.Ytpphhgaeoljioaa
