/- Blocks as two numbers, texts as lists of blocks. No program is in here. -/
import Derived.Test.YtlihfdbfcklkmaaHN
import Derived.Test.YtlihfdbfcklkmaaE16
set_option linter.unusedVariables false
set_option linter.unusedSimpArgs false
namespace Go.Proofs.Ytlihfdbfcklkmaa.Pad.Gh
/-- The numbers whose most significant bits are the coefficients of 1 and of x^64. -/
def lo (a : W) : BitVec 64 := (a.setWidth 64).reverse
def hi (a : W) : BitVec 64 := ((a >>> 64).setWidth 64).reverse
theorem lo_bit (a : W) (j : Nat) : (lo a).getLsbD j = (decide (j < 64) && a.getLsbD (63 - j)) := by
  unfold lo
  rw [BitVec.getLsbD_reverse, BitVec.getMsbD_eq_getLsbD, BitVec.getLsbD_setWidth]
  by_cases h : j < 64
  · simp [h, show 63 - j < 64 by omega]
  · simp [h]
theorem hi_bit (a : W) (j : Nat) : (hi a).getLsbD j = (decide (j < 64) && a.getLsbD (127 - j)) := by
  unfold hi
  rw [BitVec.getLsbD_reverse, BitVec.getMsbD_eq_getLsbD, BitVec.getLsbD_setWidth, BitVec.getLsbD_ushiftRight]
  by_cases h : j < 64
  · simp [h, show 63 - j < 64 by omega, show 64 + (63 - j) = 127 - j by omega]
  · simp [h]
theorem lohi_inj {a b : W} (h1 : lo a = lo b) (h2 : hi a = hi b) : a = b := by
  apply BitVec.eq_of_getLsbD_eq
  intro i hi'
  by_cases h : i < 64
  · have : (lo a).getLsbD (63 - i) = (lo b).getLsbD (63 - i) := by rw [h1]
    rw [lo_bit, lo_bit, show 63 - (63 - i) = i by omega] at this
    simpa only [show 63 - i < 64 by omega, decide_true, Bool.true_and] using this
  · have : (hi a).getLsbD (127 - i) = (hi b).getLsbD (127 - i) := by rw [h2]
    rw [hi_bit, hi_bit, show 127 - (127 - i) = i by omega] at this
    simpa only [show 127 - i < 64 by omega, decide_true, Bool.true_and] using this
theorem lo_xor (a b : W) : lo (a ^^^ b) = lo a ^^^ lo b := by
  apply BitVec.eq_of_getLsbD_eq
  intro i _
  rw [BitVec.getLsbD_xor, lo_bit, lo_bit, lo_bit, BitVec.getLsbD_xor]
  cases decide (i < 64) <;> simp
theorem hi_xor (a b : W) : hi (a ^^^ b) = hi a ^^^ hi b := by
  apply BitVec.eq_of_getLsbD_eq
  intro i _
  rw [BitVec.getLsbD_xor, hi_bit, hi_bit, hi_bit, BitVec.getLsbD_xor]
  cases decide (i < 64) <;> simp
theorem lo_zero : lo 0#128 = 0#64 := by decide +kernel
theorem hi_zero : hi 0#128 = 0#64 := by decide +kernel
theorem lo_one : lo 1#128 = 9223372036854775808#64 := by decide +kernel
theorem hi_one : hi 1#128 = 0#64 := by decide +kernel
theorem red_bits : ∀ j, j < 64 → (16212958658533785600#64).getLsbD j = (0x87#128).getLsbD (63 - j) ∧ (0x87#128).getLsbD (127 - j) = false := by decide +kernel
theorem lo_dbl (a : W) : lo (dbl a) = if a.getLsbD 127 then (lo a >>> 1) ^^^ 16212958658533785600#64 else lo a >>> 1 := by
  apply BitVec.eq_of_getLsbD_eq
  intro j hj
  obtain ⟨r1, r2⟩ := red_bits j hj
  rw [lo_bit, dbl, BitVec.getLsbD_xor, BitVec.getLsbD_shiftLeft]
  by_cases h127 : a.getLsbD 127 = true
  · rw [if_pos h127, if_pos h127, BitVec.getLsbD_xor, BitVec.getLsbD_ushiftRight, lo_bit, r1]
    by_cases h : 1 + j < 64
    · simp [hj, h, show ¬ 63 - j < 1 by omega, show 63 - j - 1 = 63 - (1 + j) by omega, show 63 - j < 128 by omega]
    · simp [hj, h, show 63 - j < 1 by omega]
  · rw [if_neg h127, if_neg h127, BitVec.getLsbD_ushiftRight, lo_bit]
    by_cases h : 1 + j < 64
    · simp [hj, h, show ¬ 63 - j < 1 by omega, show 63 - j - 1 = 63 - (1 + j) by omega, show 63 - j < 128 by omega]
    · simp [hj, h, show 63 - j < 1 by omega]
theorem hi_dbl (a : W) : hi (dbl a) = (hi a >>> 1) ||| (lo a <<< 63) := by
  apply BitVec.eq_of_getLsbD_eq
  intro j hj
  obtain ⟨r1, r2⟩ := red_bits j hj
  have hr : (if a.getLsbD 127 = true then 0x87#128 else 0#128).getLsbD (127 - j) = false := by
    split
    · exact r2
    · simp
  rw [hi_bit, dbl, BitVec.getLsbD_xor, BitVec.getLsbD_shiftLeft, hr, BitVec.getLsbD_or, BitVec.getLsbD_ushiftRight, BitVec.getLsbD_shiftLeft, hi_bit, lo_bit]
  by_cases h : 1 + j < 64
  · simp [hj, h, show ¬ 127 - j < 1 by omega, show 127 - j - 1 = 127 - (1 + j) by omega, show 127 - j < 128 by omega, show j < 63 by omega]
  · obtain rfl : j = 63 := by omega
    simp
/-- A bit, by shifts. -/
theorem bit_shift (x : BitVec 64) (i : Nat) (h : i < 64) : ((x <<< i) >>> 63 = 1#64) = (x.getLsbD (63 - i) = true) := by
  apply propext
  have e0 : ((x <<< i) >>> 63).getLsbD 0 = x.getLsbD (63 - i) := by
    rw [BitVec.getLsbD_ushiftRight, BitVec.getLsbD_shiftLeft]
    simp [show ¬ 63 < i by omega]
  constructor
  · intro e
    rw [← e0, e]; rfl
  · intro e
    apply BitVec.eq_of_getLsbD_eq
    intro j hj
    by_cases h0 : j = 0
    · subst h0; rw [e0, e]; rfl
    · rw [BitVec.getLsbD_ushiftRight, BitVec.getLsbD_of_ge _ _ (by omega)]
      simp [h0]
theorem lo_at (a : W) (i : Nat) (h : i < 64) : ((lo a <<< i) >>> 63 = 1#64) = (a.getLsbD i = true) := by
  rw [bit_shift _ _ h, lo_bit]
  simp [show 63 - i < 64 by omega, show 63 - (63 - i) = i by omega]
theorem hi_at (a : W) (i : Nat) (h : i < 64) : ((hi a <<< i) >>> 63 = 1#64) = (a.getLsbD (64 + i) = true) := by
  rw [bit_shift _ _ h, hi_bit]
  simp [show 63 - i < 64 by omega, show 127 - (63 - i) = 64 + i by omega]
/-- The number of bytes, the highest first. -/
def numK (f : Nat → BitVec 8) : Nat → BitVec 64
  | 0 => 0#64
  | k + 1 => (numK f k <<< 8) ||| (f k).setWidth 64
theorem numK_bit (f : Nat → BitVec 8) (j : Nat) : ∀ k, k ≤ 8 → (numK f k).getLsbD j = (decide (j < 8 * k) && (f (k - 1 - j / 8)).getLsbD (j % 8))
  | 0, _ => by simp [numK]
  | k + 1, h => by
    rw [numK, BitVec.getLsbD_or, BitVec.getLsbD_shiftLeft, BitVec.getLsbD_setWidth]
    by_cases h8 : j < 8
    · simp [h8, show j < 64 by omega, show j < 8 * (k + 1) by omega, show j / 8 = 0 by omega, show j % 8 = j by omega]
    · rw [numK_bit f (j - 8) k (by omega), BitVec.getLsbD_of_ge (f k) j (by omega)]
      by_cases hk : j < 8 * (k + 1)
      · simp [h8, hk, show j < 64 by omega, show j - 8 < 8 * k by omega, show (j - 8) % 8 = j % 8 by omega, show k - 1 - (j - 8) / 8 = k - j / 8 by omega]
      · simp [hk, show ¬ j - 8 < 8 * k by omega]
theorem numK_lo (a : W) : numK (blk a) 8 = lo a := by
  apply BitVec.eq_of_getLsbD_eq
  intro j hj
  rw [numK_bit _ _ 8 (by decide), lo_bit, blk_bit _ _ _ (by omega), show 8 * (8 - 1 - j / 8) + (7 - j % 8) = 63 - j by omega]
theorem numK_hi (a : W) : numK (fun i => blk a (8 + i)) 8 = hi a := by
  apply BitVec.eq_of_getLsbD_eq
  intro j hj
  rw [numK_bit _ _ 8 (by decide), hi_bit, blk_bit _ _ _ (by omega), show 8 * (8 + (8 - 1 - j / 8)) + (7 - j % 8) = 127 - j by omega]
theorem numK_ext {f g : Nat → BitVec 8} : ∀ {k}, (∀ i, i < k → f i = g i) → numK f k = numK g k
  | 0, _ => rfl
  | k + 1, h => by rw [numK, numK, numK_ext (fun i hi => h i (by omega)), h k (by omega)]
theorem byte_lo (a : W) (i : Nat) (h : i < 8) : (lo a >>> (56 - 8 * i)).setWidth 8 = blk a i := by
  apply BitVec.eq_of_getLsbD_eq
  intro t ht
  rw [BitVec.getLsbD_setWidth, BitVec.getLsbD_ushiftRight, lo_bit, blk_bit _ _ _ ht, show 63 - (56 - 8 * i + t) = 8 * i + (7 - t) by omega]
  simp [ht]
  omega
theorem byte_hi (a : W) (i : Nat) (h : i < 8) : (hi a >>> (56 - 8 * i)).setWidth 8 = blk a (8 + i) := by
  apply BitVec.eq_of_getLsbD_eq
  intro t ht
  rw [BitVec.getLsbD_setWidth, BitVec.getLsbD_ushiftRight, hi_bit, blk_bit _ _ _ ht, show 127 - (56 - 8 * i + t) = 8 * (8 + i) + (7 - t) by omega]
  simp [ht]
  omega
/-- A block of two numbers. -/
def mk (x y : BitVec 64) : W := x.reverse.setWidth 128 ^^^ (y.reverse.setWidth 128 <<< 64)
theorem lo_mk (x y : BitVec 64) : lo (mk x y) = x := by
  apply BitVec.eq_of_getLsbD_eq
  intro j hj
  rw [lo_bit, mk, BitVec.getLsbD_xor, BitVec.getLsbD_shiftLeft, BitVec.getLsbD_setWidth, BitVec.getLsbD_reverse, BitVec.getMsbD_eq_getLsbD]
  simp [hj, show 63 - j < 64 by omega, show 63 - j < 128 by omega, show 63 - (63 - j) = j by omega]
theorem hi_mk (x y : BitVec 64) : hi (mk x y) = y := by
  apply BitVec.eq_of_getLsbD_eq
  intro j hj
  rw [hi_bit, mk, BitVec.getLsbD_xor, BitVec.getLsbD_shiftLeft, BitVec.getLsbD_setWidth, BitVec.getLsbD_setWidth, BitVec.getLsbD_reverse, BitVec.getLsbD_reverse, BitVec.getMsbD_eq_getLsbD, BitVec.getMsbD_eq_getLsbD]
  simp [hj, show ¬ 127 - j < 64 by omega, show 127 - j - 64 < 64 by omega, show 127 - j - 64 < 128 by omega, show 127 - j < 128 by omega, show 63 - (127 - j - 64) = j by omega]
/-! Texts as blocks -/
def tx (l : List UInt8) (i : Nat) : BitVec 8 := (l.getD i 0).toBitVec
def blksN : Nat → List UInt8 → List W
  | 0, _ => []
  | n + 1, l => pol (tx l) :: blksN n (l.drop 16)
def blks (l : List UInt8) : List W := blksN ((l.length + 15) / 16) l
theorem blksN_len : ∀ n l, (blksN n l).length = n
  | 0, _ => rfl
  | n + 1, l => by rw [blksN, List.length_cons, blksN_len n]
theorem blks_nil : blks [] = [] := rfl
theorem blks_cons {l : List UInt8} (h : l ≠ []) : blks l = pol (tx l) :: blks (l.drop 16) := by
  have hl : 0 < l.length := List.length_pos_iff.2 h
  unfold blks
  rw [show (l.length + 15) / 16 = ((l.drop 16).length + 15) / 16 + 1 by rw [List.length_drop]; omega]
  rfl
theorem blksN_succ : ∀ n l, blksN (n + 1) l = blksN n l ++ [pol (tx (l.drop (16 * n)))]
  | 0, l => by simp [blksN]
  | n + 1, l => by
    rw [blksN, blksN_succ n, blksN, List.cons_append, List.drop_drop, show 16 + 16 * n = 16 * (n + 1) by omega]
theorem blks_len (l : List UInt8) : (blks l).length = (l.length + 15) / 16 := blksN_len _ _
theorem pol_ext {f g : Nat → BitVec 8} (h : ∀ i, i < 16 → f i = g i) : pol f = pol g := sm_ext (fun i hi => by unfold pb; rw [h _ (by omega)]) (fun _ _ => rfl)
theorem pol_inj {f g : Nat → BitVec 8} : pol f = pol g ↔ ∀ i, i < 16 → f i = g i := by
  constructor
  · intro h i hi
    rw [← blk_pol f i hi, h, blk_pol g i hi]
  · exact pol_ext
theorem blksN_take : ∀ c l, 16 * c ≤ l.length → blksN c (l.take (16 * c)) = blksN c l
  | 0, _, _ => rfl
  | c + 1, l, h => by
    rw [blksN, blksN]
    refine List.cons_eq_cons.2 ⟨?_, ?_⟩
    · refine pol_ext fun i hi => ?_
      unfold tx
      rw [List.getD_eq_getElem?_getD, List.getD_eq_getElem?_getD, List.getElem?_take, if_pos (by omega)]
    · rw [List.drop_take, show 16 * (c + 1) - 16 = 16 * c by omega]
      exact blksN_take c _ (by rw [List.length_drop]; omega)
theorem blksN_add : ∀ c n l, blksN (c + n) l = blksN c l ++ blksN n (l.drop (16 * c))
  | 0, n, l => by simp [blksN]
  | c + 1, n, l => by
    rw [show c + 1 + n = (c + n) + 1 by omega, blksN, blksN_add c n, blksN, List.drop_drop, List.cons_append, show 16 + 16 * c = 16 * (c + 1) by omega]
theorem blks_parts (c : Nat) (l : List UInt8) (h : 16 * c ≤ l.length) : blks (l.take (16 * c)) ++ blks (l.drop (16 * c)) = blks l := by
  unfold blks
  rw [List.length_take, List.length_drop, show (min (16 * c) l.length + 15) / 16 = c by omega, blksN_take c l h, ← blksN_add]
  congr 1
  omega
theorem blksN_set : ∀ (n : Nat) (l : List UInt8) (k : Nat) (x : UInt8), k < l.length → k < 16 * n → l.getD k 0 ≠ x → ∃ p a b q, blksN n l = p ++ a :: q ∧ blksN n (l.set k x) = p ++ b :: q ∧ a ≠ b
  | 0, _, _, _, _, h, _ => by omega
  | n + 1, l, k, x, hk, h, hx => by
    by_cases h16 : k < 16
    · refine ⟨[], pol (tx l), pol (tx (l.set k x)), blksN n (l.drop 16), rfl, ?_, fun e => hx ?_⟩
      · rw [blksN, List.drop_set, if_pos h16]; rfl
      · have := pol_inj.1 e k h16
        unfold tx at this
        rw [List.getD_eq_getElem?_getD (l := l.set k x), List.getElem?_set_self hk] at this
        exact UInt8.toBitVec_inj.1 this
    · obtain ⟨p, a, b, q, h1, h2, h3⟩ := blksN_set n (l.drop 16) (k - 16) x (by rw [List.length_drop]; omega) (by omega) (by
        rw [List.getD_eq_getElem?_getD, List.getElem?_drop, show 16 + (k - 16) = k by omega, ← List.getD_eq_getElem?_getD]; exact hx)
      refine ⟨pol (tx l) :: p, a, b, q, by rw [blksN, h1]; rfl, ?_, h3⟩
      rw [blksN, List.drop_set, if_neg h16, h2, List.cons_append]
      refine List.cons_eq_cons.2 ⟨pol_ext fun i hi => ?_, rfl⟩
      unfold tx
      rw [List.getD_eq_getElem?_getD, List.getD_eq_getElem?_getD, List.getElem?_set_ne (by omega)]
theorem blks_set (l : List UInt8) (k : Nat) (x : UInt8) (hk : k < l.length) (hx : l.getD k 0 ≠ x) : ∃ p a b q, blks l = p ++ a :: q ∧ blks (l.set k x) = p ++ b :: q ∧ a ≠ b := by
  unfold blks
  rw [List.length_set]
  exact blksN_set _ l k x hk (by omega) hx
/-! The lengths -/
theorem getD_l (a b : List UInt8) (i : Nat) (h : i < a.length) : (a ++ b).getD i 0 = a.getD i 0 := by
  rw [List.getD_eq_getElem?_getD, List.getD_eq_getElem?_getD, List.getElem?_append_left h]
theorem getD_r (a b : List UInt8) (i : Nat) (h : a.length ≤ i) : (a ++ b).getD i 0 = b.getD (i - a.length) 0 := by
  rw [List.getD_eq_getElem?_getD, List.getD_eq_getElem?_getD, List.getElem?_append_right h]
theorem beB_get (v : Nat) : ∀ k i, i < k → (beB k v).getD i 0 = UInt8.ofNat (v / 256 ^ (k - 1 - i) % 256)
  | 0, i, h => by omega
  | k + 1, 0, _ => by simp [beB]
  | k + 1, i + 1, h => by
    rw [beB, List.getD_cons_succ, beB_get v k i (by omega), show k + 1 - 1 - (i + 1) = k - 1 - i by omega]
theorem numK_be (f : Nat → BitVec 8) (v : Nat) (h : ∀ i, i < 8 → f i = BitVec.ofNat 8 (v / 256 ^ (7 - i))) : numK f 8 = BitVec.ofNat 64 v := by
  apply BitVec.eq_of_getLsbD_eq
  intro j hj
  rw [numK_bit _ _ 8 (by decide), h _ (by omega), BitVec.getLsbD_ofNat, BitVec.getLsbD_ofNat, show 7 - (8 - 1 - j / 8) = j / 8 by omega, show (256 : Nat) = 2 ^ 8 from rfl, ← Nat.pow_mul, Nat.testBit_div_two_pow, show j % 8 + 8 * (j / 8) = j by omega]
  simp [hj, show j % 8 < 8 by omega]
def lens (n m : Nat) : W := pol (tx (beB 8 n ++ beB 8 m))
theorem lens_mk (n m : Nat) : lens n m = mk (BitVec.ofNat 64 n) (BitVec.ofNat 64 m) := by
  have g : ∀ v i, i < 8 → ((beB 8 v).getD i 0).toBitVec = BitVec.ofNat 8 (v / 256 ^ (7 - i)) := fun v i hi => by
    rw [beB_get v 8 i hi]
    show BitVec.ofNat 8 (v / 256 ^ (8 - 1 - i) % 256) = _
    apply BitVec.eq_of_toNat_eq
    simp
  unfold lens
  apply lohi_inj
  · rw [lo_mk, ← numK_lo]
    refine numK_be _ n fun i hi => ?_
    rw [blk_pol _ _ (by omega)]
    unfold tx
    rw [getD_l _ _ _ (by simpa using hi), g n i hi]
  · rw [hi_mk, ← numK_hi]
    refine numK_be _ m fun i hi => ?_
    rw [blk_pol _ _ (by omega)]
    unfold tx
    rw [getD_r _ _ _ (by simp), beB_len, show 8 + i - 8 = i by omega, g m i hi]
theorem lens_one (n m : Nat) : blks (beB 8 n ++ beB 8 m) = [lens n m] := by
  unfold blks
  rw [List.length_append, beB_len, beB_len]
  rfl
/-- The sum of two texts. -/
def sumT (h : W) (ad tx : List UInt8) : W := fold h (fold h (fold h 0#128 (blks ad)) (blks tx)) [lens (8 * ad.length) (8 * tx.length)]
theorem sumT_eq (h : W) (ad tx : List UInt8) : sumT h ad tx = fold h 0#128 (blks ad ++ blks tx ++ [lens (8 * ad.length) (8 * tx.length)]) := by
  unfold sumT
  rw [fold_app, fold_app]
/-- Products of powers. -/
theorem pw_half (x : W) (n : Nat) : pw x n = mul (pw x (n % 2)) (pw (mul x x) (n / 2)) := by
  rw [pw_sq, ← pw_add]; congr 1; omega
/-- A product as far as it is summed. -/
def prodK (b c : W) (k : Nat) : W := sm (bt b) (fun j => dbls j c) k
theorem prodK_end (b c : W) : prodK b c 128 = mul b c := by
  show mul c b = mul b c
  exact mul_comm c b
/-- **One byte changed tells another sum.** -/
theorem sumT_ne {h : W} (hh : h ≠ 0#128) (ad t : List UInt8) (k : Nat) (x : UInt8) (hk : k < (ad ++ t).length) (hx : (ad ++ t).getD k 0 ≠ x) :
    sumT h (((ad ++ t).set k x).take ad.length) (((ad ++ t).set k x).drop ad.length) ≠ sumT h ad t := by
  rw [sumT_eq, sumT_eq]
  by_cases hka : k < ad.length
  · rw [List.set_append_left _ _ hka, List.take_left' (by simp), List.drop_left' (by simp), List.length_set]
    rw [getD_l _ _ _ hka] at hx
    obtain ⟨p, a, b, q, h1, h2, h3⟩ := blks_set ad k x hka hx
    rw [h1, h2, List.append_assoc, List.append_assoc, List.append_assoc, List.append_assoc, List.cons_append, List.cons_append]
    exact fold_ne hh _ _ _ (Ne.symm h3)
  · rw [List.set_append_right _ _ (by omega), List.take_left' rfl, List.drop_left' rfl, List.length_set]
    rw [getD_r _ _ _ (by omega)] at hx
    rw [List.length_append] at hk
    obtain ⟨p, a, b, q, h1, h2, h3⟩ := blks_set t (k - ad.length) x (by omega) hx
    rw [h1, h2]
    have := fold_ne hh 0#128 (blks ad ++ p) (q ++ [lens (8 * ad.length) (8 * t.length)]) (Ne.symm h3)
    simpa [List.append_assoc] using this
end Go.Proofs.Ytlihfdbfcklkmaa.Pad.Gh
