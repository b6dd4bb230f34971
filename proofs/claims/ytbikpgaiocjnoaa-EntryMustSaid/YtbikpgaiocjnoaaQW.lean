/- Numbers and rows as bytes, and what is taken of them. No program is in here. -/
import Derived.Test.YtbikpgaiocjnoaaE24
set_option linter.unusedVariables false
set_option linter.unusedSimpArgs false
namespace Go.Proofs.Ytbikpgaiocjnoaa.Pad
/-- A row's bytes. -/
def rowB (s : List UInt8) : List UInt8 := beB 2 s.length ++ s
@[simp] theorem rowB_len (s : List UInt8) : (rowB s).length = 2 + s.length := by simp [rowB]
/-- A number behind bytes. -/
def numB (l : List UInt8) (size : Int) (v : Nat) : List UInt8 := if 1 ≤ size ∧ size ≤ 8 then l ++ beB size.toNat v else l
theorem numB_in (l : List UInt8) (k v : Nat) (h : 1 ≤ k ∧ k ≤ 8) : numB l k v = l ++ beB k v := by
  unfold numB; rw [if_pos (by omega), Int.toNat_natCast]
theorem u8_fdiv (v m : Nat) (hm : m ≤ 7) : IntKind.u8.wrap ((v : Int).fdiv (2 ^ min (8 * (m : Int)).toNat IntKind.u64.bits)) = ((v / 256 ^ m % 256 : Nat) : Int) := by
  rw [u8_wrap]
  have e1 : min (8 * (m : Int)).toNat IntKind.u64.bits = 8 * m := by simp [IntKind.bits]; omega
  have e2 : (2 : Int) ^ (8 * m) = ((256 ^ m : Nat) : Int) := by rw [Int.pow_mul]; simp
  rw [e1, e2, Int.fdiv_eq_ediv_of_nonneg _ (Int.natCast_nonneg _)]
  simp
/-- The number of some bytes, the highest one first. -/
def numOf (l : List UInt8) : Nat := l.foldl (fun n b => 256 * n + b.toNat) 0
theorem numOf_snoc (l : List UInt8) (b : UInt8) : numOf (l ++ [b]) = 256 * numOf l + b.toNat := by simp [numOf]
theorem numOf_lt_go : ∀ (l : List UInt8), numOf l.reverse < 256 ^ l.length
  | [] => by simp [numOf]
  | b :: l => by
    have := numOf_lt_go l
    rw [List.reverse_cons, numOf_snoc, List.length_cons, Nat.pow_succ]
    have := b.toNat_lt; omega
theorem numOf_lt (l : List UInt8) : numOf l < 256 ^ l.length := by
  have := numOf_lt_go l.reverse
  rwa [List.reverse_reverse, List.length_reverse] at this
theorem numOf_cons (b : UInt8) (l : List UInt8) : numOf (b :: l) = b.toNat * 256 ^ l.length + numOf l := by
  have go : ∀ (l : List UInt8) (n : Nat), l.foldl (fun n b => 256 * n + b.toNat) n = n * 256 ^ l.length + numOf l := by
    intro l
    induction l with
    | nil => intro n; simp [numOf]
    | cons c l ih =>
      intro n
      rw [List.foldl_cons, ih]
      show _ = n * 256 ^ (l.length + 1) + l.foldl (fun n b => 256 * n + b.toNat) (256 * 0 + c.toNat)
      rw [ih, Nat.pow_succ, Nat.mul_zero, Nat.zero_add, Nat.add_mul, Nat.add_assoc, Nat.mul_comm 256 n, Nat.mul_assoc, Nat.mul_comm 256]
  show l.foldl _ (256 * 0 + b.toNat) = _
  rw [go, Nat.mul_zero, Nat.zero_add]
theorem numOf_be (v : Nat) : ∀ k, numOf (beB k v) = v % 256 ^ k
  | 0 => by simp [beB, numOf, Nat.mod_one]
  | k + 1 => by
    rw [beB, numOf_cons, beB_len, numOf_be v k, UInt8.toNat_ofNat', show (2 ^ 8 : Nat) = 256 from rfl, Nat.mod_mod, Nat.pow_succ, Nat.mod_mul, Nat.mul_comm (256 ^ k)]
    omega
/-- The bytes of the number of some bytes are those bytes. -/
theorem be_numOf : ∀ l : List UInt8, beB l.length (numOf l) = l := by
  intro l
  have key : ∀ (l : List UInt8) (h : Nat), beB l.length (h * 256 ^ l.length + numOf l) = l := by
    intro l
    induction l with
    | nil => intro h; rfl
    | cons b l ih =>
      intro h
      rw [numOf_cons, List.length_cons, beB]
      have hp : 0 < 256 ^ l.length := Nat.pow_pos (by omega)
      have hl := numOf_lt l
      have hb := b.toNat_lt
      have e : h * 256 ^ (l.length + 1) + (b.toNat * 256 ^ l.length + numOf l) = (h * 256 + b.toNat) * 256 ^ l.length + numOf l := by
        rw [Nat.pow_succ, Nat.add_mul, Nat.mul_assoc, Nat.mul_comm 256, Nat.add_assoc]
      rw [e, ih]
      congr 1
      rw [Nat.mul_comm (h * 256 + b.toNat), Nat.mul_add_div hp, Nat.div_eq_of_lt hl, Nat.add_zero]
      apply UInt8.toNat_inj.1
      rw [UInt8.toNat_ofNat']
      have hb : b.toNat < 256 := hb
      omega
  simpa using key l 0
def takeNum (t : List UInt8) (a b size : Int) : Nat × Int × Int :=
  if b ≠ 0 then (0, a, b) else if ¬ (0 ≤ a ∧ a ≤ t.length) ∨ size < 1 ∨ 8 < size then (0, a, 2)
  else if t.length - a < size then (0, a, 3) else (numOf ((t.drop a.toNat).take size.toNat), a + size, 0)
theorem or_byte (m b : Nat) (hb : b < 256) (hm : m * 256 + b < 18446744073709551616) : bits .or .u64 ((m : Int) * 256) b = ((m * 256 + b : Nat) : Int) := by
  show IntKind.u64.wrap (((BitVec.ofInt 64 ((m : Int) * 256) ||| BitVec.ofInt 64 (b : Int)).toNat : Nat) : Int) = _
  have e1 : BitVec.ofInt 64 ((m : Int) * 256) = BitVec.ofNat 64 (m * 256) := by rw [← BitVec.ofInt_natCast]; simp
  have e2 : BitVec.ofInt 64 (b : Int) = BitVec.ofNat 64 b := by rw [← BitVec.ofInt_natCast]
  have m1 : m * 256 % 18446744073709551616 = m * 256 := by omega
  have m2 : b % 18446744073709551616 = b := by omega
  rw [e1, e2]
  simp only [BitVec.toNat_or, BitVec.toNat_ofNat, Nat.reducePow]
  rw [m1, m2, Nat.mul_comm m 256]
  have := Nat.two_pow_add_eq_or_of_lt (i := 8) hb m
  rw [show (256 : Nat) = 2 ^ 8 from rfl, ← this, u64_wrap]
  omega
theorem num_step {t : List UInt8} {i k : Nat} (h : i + k < t.length) : numOf ((t.drop i).take (k + 1)) = 256 * numOf ((t.drop i).take k) + (t.getD (i + k) 0).toNat := by
  rw [List.take_add_one, List.getElem?_drop, List.getElem?_eq_getElem h, Option.toList_some, numOf_snoc, List.getD_eq_getElem?_getD, List.getElem?_eq_getElem h]; rfl
theorem num_lt7 {t : List UInt8} {i k : Nat} (h : k ≤ 7) : numOf ((t.drop i).take k) < 256 ^ 7 := by
  have h1 := numOf_lt ((t.drop i).take k)
  have h2 : ((t.drop i).take k).length ≤ 7 := by simp; omega
  exact Nat.lt_of_lt_of_le h1 (Nat.pow_le_pow_right (by omega) h2)
theorem takeNum_ok {t : List UInt8} {a b size : Int} (h : (takeNum t a b size).2.2 = 0) : b = 0 ∧ 0 ≤ a ∧ 1 ≤ size ∧ size ≤ 8 ∧ (takeNum t a b size).2.1 = a + size ∧ a + size ≤ t.length ∧ (takeNum t a b size).1 = numOf ((t.drop a.toNat).take size.toNat) := by
  unfold takeNum at h ⊢
  split at h
  · exact absurd h ‹b ≠ 0›
  · rename_i hb
    split at h
    · simp at h
    · rename_i hv
      split at h
      · simp at h
      · rename_i hs
        rw [if_neg hb, if_neg hv, if_neg hs]
        exact ⟨by omega, by omega, by omega, by omega, rfl, by omega, rfl⟩
theorem takeNum_lt {t : List UInt8} {a b : Int} (k : Nat) : (takeNum t a b k).1 < 256 ^ k := by
  unfold takeNum
  have hp : 0 < 256 ^ k := Nat.pow_pos (by omega)
  split
  · exact hp
  · split
    · exact hp
    · split
      · exact hp
      · have h1 := numOf_lt ((t.drop a.toNat).take ((k : Nat) : Int).toNat)
        have h2 : ((t.drop a.toNat).take ((k : Nat) : Int).toNat).length ≤ k := by simp; omega
        exact Nat.lt_of_lt_of_le h1 (Nat.pow_le_pow_right (by omega) h2)
theorem takeNum_lt2 {t : List UInt8} {a b : Int} : (takeNum t a b 2).1 < 65536 := takeNum_lt 2
theorem takeNum_lt8 {t : List UInt8} {a b size : Int} : (takeNum t a b size).1 < 18446744073709551616 := by
  unfold takeNum
  split
  · simp
  · split
    · simp
    · split
      · simp
      · rename_i h1 h2 h3
        have h4 := numOf_lt ((t.drop a.toNat).take size.toNat)
        have h5 : ((t.drop a.toNat).take size.toNat).length ≤ 8 := by simp; omega
        exact Nat.lt_of_lt_of_le h4 (Nat.pow_le_pow_right (by omega) h5)
def takeRow (t : List UInt8) (a b : Int) : List UInt8 × Int × Int :=
  if (takeNum t a b 2).2.2 ≠ 0 then ([], (takeNum t a b 2).2.1, (takeNum t a b 2).2.2)
  else if t.length - (takeNum t a b 2).2.1 < (takeNum t a b 2).1 then ([], a, 3)
  else ((t.take ((takeNum t a b 2).2.1 + (takeNum t a b 2).1).toNat).drop (takeNum t a b 2).2.1.toNat, (takeNum t a b 2).2.1 + (takeNum t a b 2).1, (takeNum t a b 2).2.2)
theorem takeRow_ok {t : List UInt8} {a b : Int} (h : (takeRow t a b).2.2 = 0) : b = 0 ∧ 0 ≤ a ∧ a + 2 ≤ (takeRow t a b).2.1 ∧ (takeRow t a b).2.1 ≤ t.length := by
  unfold takeRow at h ⊢
  split at h
  · exact absurd h (by simpa using ‹_›)
  · rename_i hb
    split at h
    · simp at h
    · rename_i hs
      rw [if_neg hb, if_neg hs]
      obtain ⟨k1, k2, k3, k4, k5, k6, k7⟩ := takeNum_ok (by simpa using hb)
      refine ⟨k1, k2, ?_, ?_⟩ <;> simp only <;> omega
def restOf (t : List UInt8) (a b : Int) : List UInt8 := if b ≠ 0 ∨ ¬ (0 ≤ a ∧ a ≤ t.length) then [] else t.drop a.toNat
def endOf (t : List UInt8) (a b : Int) : Int := if b ≠ 0 then b else if ¬ (0 ≤ a ∧ a ≤ t.length) then 2 else if a < t.length then 4 else 0
theorem takeNum_be (p r : List UInt8) (k v : Nat) (h1 : 1 ≤ k) (h8 : k ≤ 8) : takeNum (p ++ beB k v ++ r) p.length 0 k = (v % 256 ^ k, (p.length : Int) + k, 0) := by
  unfold takeNum
  rw [if_neg (by simp), if_neg (by simp; omega), if_neg (by simp; omega)]
  have : ((p ++ beB k v ++ r).drop ((p.length : Int)).toNat).take ((k : Int)).toNat = beB k v := by
    rw [Int.toNat_natCast, Int.toNat_natCast, List.append_assoc, List.drop_left, List.take_left' (by simp)]
  rw [this, numOf_be]
theorem takeRow_row (p s r : List UInt8) (h : s.length ≤ 65535) : takeRow (p ++ rowB s ++ r) p.length 0 = (s, (p.length : Int) + 2 + s.length, 0) := by
  have e := takeNum_be p (s ++ r) 2 s.length (by omega) (by omega)
  have e1 : s.length % 256 ^ 2 = s.length := Nat.mod_eq_of_lt (by omega)
  rw [e1] at e
  have e2 : p ++ rowB s ++ r = p ++ beB 2 s.length ++ (s ++ r) := by simp [rowB]
  rw [e2]
  unfold takeRow
  rw [show ((2 : Nat) : Int) = 2 from rfl] at e
  rw [e, if_neg (by simp), if_neg (by simp; omega)]
  simp only [Prod.mk.injEq, and_true]
  rw [show ((p.length : Int) + 2 + s.length).toNat = p.length + 2 + s.length by omega, show ((p.length : Int) + 2).toNat = p.length + 2 by omega]
  rw [show p ++ beB 2 s.length ++ (s ++ r) = (p ++ beB 2 s.length ++ s) ++ r by simp, List.take_left' (by simp; omega), List.drop_left' (by simp)]
end Go.Proofs.Ytbikpgaiocjnoaa.Pad
