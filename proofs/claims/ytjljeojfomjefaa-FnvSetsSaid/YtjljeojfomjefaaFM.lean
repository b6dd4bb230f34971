/- Hashes and shards: what they are. -/
import Derived.Test.YtjljeojfomjefaaE19
set_option linter.unusedVariables false
set_option linter.unusedSimpArgs false
namespace Go.Proofs.Ytjljeojfomjefaa.Pad.Fnv
abbrev B := BitVec 64
def prime : B := 1099511628211
def inv : B := 14886173955864302971
def w (b : UInt8) : B := b.toBitVec.setWidth 64
def add (x : B) (b : UInt8) : B := (x ^^^ w b) * prime
def undo (x : B) (b : UInt8) : B := x * inv ^^^ w b
def start : B := 14695981039346656037
def sum (l : List UInt8) : B := l.foldl add start
theorem sum_nil : sum [] = start := rfl
theorem sum_snoc (l : List UInt8) (b : UInt8) : sum (l ++ [b]) = add (sum l) b := by simp [sum]
theorem sum_take (l : List UInt8) (k : Nat) (h : k < l.length) : sum (l.take (k + 1)) = add (sum (l.take k)) l[k] := by
  rw [take_one l k h, sum_snoc]
theorem w_inj {a b : UInt8} : w a = w b ↔ a = b := by
  constructor
  · intro h
    have h1 : (w a).toNat = (w b).toNat := by rw [h]
    have e : ∀ c : UInt8, (w c).toNat = c.toNat := fun c => by
      show (c.toBitVec.setWidth 64).toNat = c.toBitVec.toNat
      rw [BitVec.toNat_setWidth, Nat.mod_eq_of_lt (Nat.lt_trans c.toBitVec.isLt (by decide))]
    rw [e, e] at h1
    exact UInt8.toNat_inj.1 h1
  · intro h; rw [h]
theorem xx (x y : B) : x ^^^ y ^^^ y = x := by rw [BitVec.xor_assoc, BitVec.xor_self, BitVec.xor_zero]
theorem undo_add (x : B) (b : UInt8) : undo (add x b) b = x := by
  unfold undo add
  rw [BitVec.mul_assoc, show prime * inv = 1#64 from rfl, BitVec.mul_one, xx]
theorem add_undo (x : B) (b : UInt8) : add (undo x b) b = x := by
  unfold undo add
  rw [xx, BitVec.mul_assoc, show inv * prime = 1#64 from rfl, BitVec.mul_one]
theorem add_inj {x y : B} {b : UInt8} : add x b = add y b ↔ x = y :=
  ⟨fun h => by rw [← undo_add x b, h, undo_add], fun h => by rw [h]⟩
theorem add_byte {x : B} {a b : UInt8} : add x a = add x b ↔ a = b := by
  constructor
  · intro h
    have h1 : add x a * inv = add x b * inv := by rw [h]
    unfold add at h1
    rw [BitVec.mul_assoc, BitVec.mul_assoc, show prime * inv = 1#64 from rfl, BitVec.mul_one, BitVec.mul_one] at h1
    have h2 : x ^^^ (x ^^^ w a) = x ^^^ (x ^^^ w b) := by rw [h1]
    rw [← BitVec.xor_assoc, ← BitVec.xor_assoc, BitVec.xor_self, BitVec.zero_xor, BitVec.zero_xor] at h2
    exact w_inj.1 h2
  · intro h; rw [h]
/-- What shards come from. -/
def mix (l : List UInt8) : Nat := ((sum l).toNat / 4294967296) ^^^ ((sum l).toNat % 4294967296)
theorem mix_lt (l : List UInt8) : mix l < 4294967296 := by
  have := (sum l).isLt
  exact Nat.xor_lt_two_pow (n := 32) (by omega) (by omega)
def shN (l : List UInt8) (n : Nat) : Nat := mix l % n
theorem shN_lt (l : List UInt8) {n : Nat} (h : 0 < n) : shN l n < n := Nat.mod_lt _ h
/-- The shards of texts. -/
def has (ls : List (List UInt8)) (n k : Nat) : Bool := ls.any fun s => shN s n == k
def shs (n : Nat) (ls : List (List UInt8)) : List Nat := (List.range n).filter (has ls n)
theorem has_true (ls : List (List UInt8)) (n k : Nat) : has ls n k = true ↔ ∃ s ∈ ls, shN s n = k := by
  simp [has]
theorem has_lt {ls : List (List UInt8)} {n k : Nat} (hn : 0 < n) (h : has ls n k = true) : k < n := by
  obtain ⟨s, _, rfl⟩ := (has_true _ _ _).1 h
  exact shN_lt s hn
theorem filter_range (p : Nat → Bool) (n : Nat) : ∀ m, n ≤ m → (∀ k, p k = true → k < n) → (List.range m).filter p = (List.range n).filter p
  | 0, h, _ => by obtain rfl : n = 0 := by omega
                  rfl
  | m + 1, h, hp => by
    rcases Nat.lt_or_ge m n with h1 | h1
    · obtain rfl : n = m + 1 := by omega
      rfl
    · rw [List.range_succ, List.filter_append, filter_range p n m h1 hp]
      have : p m = false := by
        cases hm : p m with
        | false => rfl
        | true => have := hp m hm; omega
      simp [this]
theorem shs_8 (n : Nat) (ls : List (List UInt8)) (h0 : 0 < n) (h8 : n ≤ 8) : (List.range 8).filter (has ls n) = shs n ls :=
  filter_range _ n 8 h8 fun _ hk => has_lt h0 hk
theorem filter_succ (p : Nat → Bool) (k : Nat) : (List.range (k + 1)).filter p = (List.range k).filter p ++ if p k = true then [k] else [] := by
  rw [List.range_succ, List.filter_append]
  cases h : p k <;> simp [h]
theorem mem_shs (n : Nat) (ls : List (List UInt8)) (k : Nat) : k ∈ shs n ls ↔ k < n ∧ ∃ s ∈ ls, shN s n = k := by
  simp [shs, has_true]
theorem shs_len (n : Nat) (ls : List (List UInt8)) : (shs n ls).length ≤ n := by
  have := List.length_filter_le (has ls n) (List.range n)
  simpa [shs] using this
theorem shs_sorted (n : Nat) (ls : List (List UInt8)) : (shs n ls).Pairwise (· < ·) := (List.pairwise_lt_range (n := n)).filter _
/-- Numbers of a list, as they lie. -/
def ints (l : List Nat) : List AV := l.map fun (k : Nat) => .int .i64 (k : Int)
@[simp] theorem ints_len (l : List Nat) : (ints l).length = l.length := by simp [ints]
theorem ints_app (a b : List Nat) : ints (a ++ b) = ints a ++ ints b := by simp [ints]
@[simp] theorem ints_nil : ints [] = [] := rfl
@[simp] theorem ints_get (l : List Nat) (i : Nat) (h : i < (ints l).length) : (ints l)[i] = .int .i64 (l[i]'(by simpa using h) : Nat) := by simp [ints]
@[simp] theorem ints_get? (l : List Nat) (i : Nat) (h : i < l.length) : (ints l)[i]? = some (.int .i64 (l[i] : Nat)) := by simp [ints, h]
theorem ints_one (k : Nat) : [AV.int .i64 (k : Int)] = ints [k] := rfl
/-- Marks in an array. -/
def marks (n : Nat) (m : Nat → Bool) : List AV := (List.range n).map fun j => .bool (m j)
@[simp] theorem marks_len (n : Nat) (m : Nat → Bool) : (marks n m).length = n := by simp [marks]
theorem marks_get (n : Nat) (m : Nat → Bool) (i : Nat) (h : i < n) : (marks n m)[i]? = some (.bool (m i)) := by simp [marks, h]
@[simp] theorem marks_getE (n : Nat) (m : Nat → Bool) (i : Nat) (h : i < (marks n m).length) : (marks n m)[i] = .bool (m i) := by simp [marks]
theorem marks_splice (n : Nat) (m : Nat → Bool) (i : Nat) (h : i < n) : splice (marks n m) i [.bool true] = marks n fun j => m j || i == j := by
  unfold splice marks
  apply List.ext_getElem?
  intro j
  rcases Nat.lt_trichotomy j i with h1 | h1 | h1
  · rw [List.append_assoc, List.getElem?_append_left (by simp; omega)]
    have h2 : (i == j) = false := by simp; omega
    by_cases hj : j < n <;> simp [h1, h2, hj]
  · subst h1
    rw [List.append_assoc, List.getElem?_append_right (by simp; omega)]
    simp [h, Nat.min_eq_left (Nat.le_of_lt h)]
  · rw [List.append_assoc, List.getElem?_append_right (by simp; omega)]
    have h2 : (i == j) = false := by simp; omega
    have h3 : j - min i n = (j - i - 1) + 1 := by omega
    have h4 : i + 1 + (j - i - 1) = j := by omega
    by_cases hj : j < n <;> simp [h2, h3, h4, hj]
end Go.Proofs.Ytjljeojfomjefaa.Pad.Fnv
