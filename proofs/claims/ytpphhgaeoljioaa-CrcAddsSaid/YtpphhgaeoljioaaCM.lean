/- The register of a sum of 32 bits: shifts, products, and what they have in common. -/
namespace Go.Proofs.Ytpphhgaeoljioaa.Pad.Crc
abbrev B := BitVec 32
def poly : B := 3988292384#32
def sh (x : B) : B := if x.getLsbD 0 = true then (x >>> 1) ^^^ poly else x >>> 1
def shN : Nat → B → B
  | 0, x => x
  | n + 1, x => sh (shN n x)
theorem shN_add (x : B) (m : Nat) : ∀ n, shN (n + m) x = shN n (shN m x)
  | 0 => by rw [Nat.zero_add]; rfl
  | n + 1 => by rw [Nat.add_right_comm]; simp only [shN]; rw [shN_add x m n]
theorem shN_comm (x : B) (m n : Nat) : shN n (shN m x) = shN m (shN n x) := by rw [← shN_add, ← shN_add, Nat.add_comm]
theorem ite_xor (a b : Bool) (x y p : B) : ((if a = true then x ^^^ p else x) ^^^ (if b = true then y ^^^ p else y)) = if (a ^^ b) = true then (x ^^^ y) ^^^ p else x ^^^ y := by
  cases a <;> cases b <;> simp
  · rw [BitVec.xor_assoc]
  · rw [BitVec.xor_assoc, BitVec.xor_comm p y, ← BitVec.xor_assoc]
  · rw [BitVec.xor_comm y p, ← BitVec.xor_assoc, BitVec.xor_assoc x p p, BitVec.xor_self, BitVec.xor_zero]
theorem sh_xor (x y : B) : sh (x ^^^ y) = sh x ^^^ sh y := by
  unfold sh
  rw [ite_xor, BitVec.getLsbD_xor, BitVec.ushiftRight_xor_distrib]
theorem shN_xor (x y : B) : ∀ n, shN n (x ^^^ y) = shN n x ^^^ shN n y
  | 0 => rfl
  | n + 1 => by simp only [shN]; rw [shN_xor x y n, sh_xor]
theorem sh_zero : sh 0#32 = 0#32 := by rfl
theorem shN_zero : ∀ n, shN n 0#32 = 0#32
  | 0 => rfl
  | n + 1 => by simp only [shN]; rw [shN_zero n, sh_zero]
theorem poly_top : poly.getLsbD 31 = true := by rfl
theorem sh_top (x : B) : (sh x).getLsbD 31 = x.getLsbD 0 := by
  unfold sh
  split
  · rename_i h
    rw [BitVec.getLsbD_xor, poly_top, BitVec.getLsbD_ushiftRight, h]
    simp
  · rename_i h
    rw [BitVec.getLsbD_ushiftRight]
    simp at h
    simp [h]
theorem xor_inj {x y p : B} (h : x ^^^ p = y ^^^ p) : x = y := by
  have := congrArg (· ^^^ p) h
  simpa [BitVec.xor_assoc] using this
theorem sh_inj {x y : B} (h : sh x = sh y) : x = y := by
  have h0 : x.getLsbD 0 = y.getLsbD 0 := by rw [← sh_top, h, sh_top]
  have h1 : x >>> 1 = y >>> 1 := by
    unfold sh at h
    rw [h0] at h
    split at h
    · exact xor_inj h
    · exact h
  apply BitVec.eq_of_getLsbD_eq
  intro i hi
  cases i with
  | zero => exact h0
  | succ i =>
    have := congrArg (fun z : B => z.getLsbD i) h1
    simpa [BitVec.getLsbD_ushiftRight, Nat.add_comm] using this
theorem shN_inj {x y : B} : ∀ n, shN n x = shN n y → x = y
  | 0, h => h
  | n + 1, h => shN_inj n (sh_inj h)
/-! products -/
def tmS (a b : B) : Nat → B
  | 0 => 0#32
  | k + 1 => if a.getLsbD (31 - k) = true then tmS a b k ^^^ shN k b else tmS a b k
def mul (a b : B) : B := tmS a b 32
theorem tmS_shN (a b : B) (m : Nat) : ∀ k, shN m (tmS a b k) = tmS a (shN m b) k
  | 0 => shN_zero m
  | k + 1 => by
    simp only [tmS]
    split
    · rw [shN_xor, tmS_shN a b m k, shN_comm]
    · exact tmS_shN a b m k
def one : B := 2147483648#32
theorem shN_one : ∀ k, k < 32 → shN k one = BitVec.ofNat 32 (2 ^ (31 - k)) := by
  intro k hk
  have : ∀ k : Fin 32, shN k.1 one = BitVec.ofNat 32 (2 ^ (31 - k.1)) := by decide
  exact this ⟨k, hk⟩
theorem one_bit (k j : Nat) (hk : k < 32) (hj : j < 32) : (BitVec.ofNat 32 (2 ^ (31 - k))).getLsbD j = decide (j = 31 - k) := by
  rw [BitVec.getLsbD_ofNat, Nat.testBit_two_pow]
  simp [hj, eq_comm]
theorem tmS_one (a : B) : ∀ k, k ≤ 32 → ∀ j, j < 32 → (tmS a one k).getLsbD j = (decide (32 ≤ j + k) && a.getLsbD j)
  | 0, _, j, hj => by simp [tmS]; omega
  | k + 1, hk, j, hj => by
    have ih := tmS_one a k (by omega) j hj
    have hs := shN_one k (by omega)
    have hb := one_bit k j (by omega) hj
    simp only [tmS]
    by_cases e : j = 31 - k
    · subst e
      have e1 : decide (32 ≤ 31 - k + k) = false := by simp; omega
      have e2 : decide (32 ≤ 31 - k + (k + 1)) = true := by simp; omega
      rw [e1] at ih
      split
      · rename_i h; rw [BitVec.getLsbD_xor, ih, hs, hb, e2, h]; simp
      · rename_i h; rw [ih, e2]; simp at h; simp [h]
    · have e1 : decide (32 ≤ j + (k + 1)) = decide (32 ≤ j + k) := by congr 1; apply propext; omega
      split
      · rw [BitVec.getLsbD_xor, ih, hs, hb, e1]; simp [e]
      · rw [ih, e1]
theorem mul_one (a : B) : mul a one = a := by
  apply BitVec.eq_of_getLsbD_eq
  intro j hj
  unfold mul
  rw [tmS_one a 32 (by omega) j hj]
  simp
theorem mul_pow (a : B) (m : Nat) : mul a (shN m one) = shN m a := by
  unfold mul
  rw [← tmS_shN]
  exact congrArg (shN m) (mul_one a)
theorem one8 : shN 8 one = 8388608#32 := by decide
/-! bytes -/
def byteV (b : UInt8) : B := BitVec.ofNat 32 b.toNat
def stepB (r : B) (b : UInt8) : B := shN 8 (r ^^^ byteV b)
def feed (r : B) (l : List UInt8) : B := l.foldl stepB r
def reg0 : B := 4294967295#32
def sum (l : List UInt8) : B := ~~~ (feed reg0 l)
theorem feed_app (r : B) (a b : List UInt8) : feed r (a ++ b) = feed (feed r a) b := by simp [feed]
theorem feed_snoc (r : B) (l : List UInt8) (b : UInt8) : feed r (l ++ [b]) = stepB (feed r l) b := by simp [feed]
theorem byteV_zero : byteV 0 = 0#32 := by rfl
theorem stepB_zero (r : B) : stepB r 0 = shN 8 r := by unfold stepB; rw [byteV_zero, BitVec.xor_zero]
def skipN : Nat → B → B
  | 0, r => r
  | n + 1, r => stepB (skipN n r) 0
theorem skipN_eq (r : B) : ∀ n, skipN n r = shN (8 * n) r
  | 0 => rfl
  | n + 1 => by simp only [skipN]; rw [skipN_eq r n, stepB_zero, ← shN_add]; congr 1; omega
theorem skipN_add (r : B) (m n : Nat) : skipN n (skipN m r) = skipN (m + n) r := by
  rw [skipN_eq, skipN_eq, skipN_eq, ← shN_add]; congr 1; omega
theorem byteV_inj {a b : UInt8} (h : byteV a = byteV b) : a = b := by
  have := congrArg BitVec.toNat h
  simp only [byteV, BitVec.toNat_ofNat] at this
  have ha := a.toNat_lt; have hb := b.toNat_lt
  apply UInt8.toNat_inj.1
  omega
theorem stepB_inj {r s : B} {b : UInt8} (h : stepB r b = stepB s b) : r = s := xor_inj (shN_inj 8 h)
theorem stepB_byte {r : B} {a b : UInt8} (h : stepB r a = stepB r b) : a = b := by
  have h1 := shN_inj 8 h
  rw [BitVec.xor_comm r, BitVec.xor_comm r] at h1
  exact byteV_inj (xor_inj h1)
theorem feed_inj : ∀ (l : List UInt8) {r s : B}, feed r l = feed s l → r = s
  | [], _, _, h => h
  | b :: l, r, s, h => stepB_inj (feed_inj l (r := stepB r b) (s := stepB s b) h)
theorem feed_change (r : B) (a b : List UInt8) (x y : UInt8) (h : feed r (a ++ x :: b) = feed r (a ++ y :: b)) : x = y := by
  rw [feed_app, feed_app] at h
  exact stepB_byte (feed_inj b (r := stepB (feed r a) x) (s := stepB (feed r a) y) h)
theorem not_inj {x y : B} (h : ~~~ x = ~~~ y) : x = y := by
  have := congrArg (fun z : B => ~~~ z) h
  simpa using this
theorem byteV_xor (a b : UInt8) : byteV (a ^^^ b) = byteV a ^^^ byteV b := by
  apply BitVec.eq_of_toNat_eq
  have ha := a.toNat_lt; have hb := b.toNat_lt
  rw [BitVec.toNat_xor]
  simp only [byteV, BitVec.toNat_ofNat, UInt8.toNat_xor]
  have hx : a.toNat ^^^ b.toNat < 2 ^ 8 := Nat.xor_lt_two_pow (by omega) (by omega)
  rw [Nat.mod_eq_of_lt (by omega), Nat.mod_eq_of_lt (by omega), Nat.mod_eq_of_lt (by omega)]
theorem stepB_xor (r s : B) (a b : UInt8) : stepB (r ^^^ s) (a ^^^ b) = stepB r a ^^^ stepB s b := by
  unfold stepB
  rw [← shN_xor, byteV_xor]
  congr 1
  rw [BitVec.xor_assoc, BitVec.xor_assoc, ← BitVec.xor_assoc s, BitVec.xor_comm s, BitVec.xor_assoc (byteV a)]
/-- What a text's register has to do with the text. -/
theorem join_feed (r s : B) : ∀ (l : List UInt8), feed (r ^^^ s) l = shN (8 * l.length) r ^^^ feed s l
  | [] => rfl
  | b :: l => by
    show feed (stepB (r ^^^ s) b) l = _ ^^^ feed (stepB s b) l
    have e : stepB (r ^^^ s) b = shN 8 r ^^^ stepB s b := by
      have := stepB_xor r s 0 b
      rw [stepB_zero] at this
      rw [← this]
      congr 1
      simp
    rw [e, join_feed (shN 8 r) (stepB s b) l, ← shN_add]
    congr 2
theorem not_eq (x : B) : ~~~ x = x ^^^ reg0 := by
  apply BitVec.eq_of_getLsbD_eq
  intro i hi
  have : reg0.getLsbD i = true := by
    have : reg0 = BitVec.allOnes 32 := by rfl
    rw [this, BitVec.getLsbD_allOnes]; simp [hi]
  rw [BitVec.getLsbD_not, BitVec.getLsbD_xor, this]
  simp [hi]
theorem join_sum (a b : List UInt8) : skipN b.length (sum a) ^^^ sum b = sum (a ++ b) := by
  unfold sum
  rw [feed_app, skipN_eq, not_eq (feed reg0 a)]
  have h1 : feed (feed reg0 a) b = shN (8 * b.length) (feed reg0 a ^^^ reg0) ^^^ feed reg0 b := by
    rw [← join_feed, BitVec.xor_assoc, BitVec.xor_self, BitVec.xor_zero]
  rw [h1, not_eq, not_eq, BitVec.xor_assoc]
end Go.Proofs.Ytpphhgaeoljioaa.Pad.Crc
