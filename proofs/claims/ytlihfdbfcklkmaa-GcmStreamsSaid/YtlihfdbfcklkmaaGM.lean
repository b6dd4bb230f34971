/- The field of 256 elements. No program is in here. -/
namespace Go.Proofs.Ytlihfdbfcklkmaa.Pad.Gf
abbrev B := BitVec 8
def dbl (a : B) : B := if a.getLsbD 7 then (a <<< 1) ^^^ 0x1b#8 else a <<< 1
def dbls : Nat → B → B
  | 0, a => a
  | k + 1, a => dbl (dbls k a)
def mulK (a b : B) : Nat → B
  | 0 => 0#8
  | k + 1 => mulK a b k ^^^ (if b.getLsbD k then dbls k a else 0#8)
def mul (a b : B) : B := mulK a b 8
theorem xac (a b c d : B) : (a ^^^ b) ^^^ (c ^^^ d) = (a ^^^ c) ^^^ (b ^^^ d) := by
  rw [BitVec.xor_assoc, ← BitVec.xor_assoc b c d, BitVec.xor_comm b c, BitVec.xor_assoc c b d, ← BitVec.xor_assoc]
theorem dbl_add (a b : B) : dbl (a ^^^ b) = dbl a ^^^ dbl b := by
  unfold dbl
  rw [BitVec.getLsbD_xor, BitVec.shiftLeft_xor_distrib]
  cases a.getLsbD 7 <;> cases b.getLsbD 7 <;> simp
  · rw [BitVec.xor_assoc]
  · rw [BitVec.xor_assoc, BitVec.xor_assoc, BitVec.xor_comm (b <<< 1)]
  · rw [xac]; simp
theorem dbls_add (a b : B) : ∀ k, dbls k (a ^^^ b) = dbls k a ^^^ dbls k b
  | 0 => rfl
  | k + 1 => by simp only [dbls, dbls_add a b k, dbl_add]
theorem mul_add (a b c : B) : mul a (b ^^^ c) = mul a b ^^^ mul a c := by
  have key : ∀ k, mulK a (b ^^^ c) k = mulK a b k ^^^ mulK a c k := by
    intro k
    induction k with
    | zero => simp [mulK]
    | succ k ih =>
      simp only [mulK, ih, BitVec.getLsbD_xor]
      cases b.getLsbD k <;> cases c.getLsbD k <;> simp
      · rw [BitVec.xor_assoc]
      · rw [BitVec.xor_assoc, BitVec.xor_assoc, BitVec.xor_comm (dbls k a)]
      · rw [xac]; simp
  exact key 8
theorem add_mul (a b c : B) : mul (a ^^^ b) c = mul a c ^^^ mul b c := by
  have key : ∀ k, mulK (a ^^^ b) c k = mulK a c k ^^^ mulK b c k := by
    intro k
    induction k with
    | zero => simp [mulK]
    | succ k ih =>
      simp only [mulK, ih, dbls_add]
      cases c.getLsbD k <;> simp
      rw [xac]
  exact key 8
/-! Two that go into sums and are one at the eight bits are one. -/
def e (i : Nat) : B := 1#8 <<< i
def bx (x : B) (i : Nat) : B := if x.getLsbD i then e i else 0#8
theorem parts : ∀ x : B, x = bx x 0 ^^^ bx x 1 ^^^ bx x 2 ^^^ bx x 3 ^^^ bx x 4 ^^^ bx x 5 ^^^ bx x 6 ^^^ bx x 7 := by decide +kernel
theorem ext8 {f g : B → B} (hf : ∀ x y, f (x ^^^ y) = f x ^^^ f y) (hg : ∀ x y, g (x ^^^ y) = g x ^^^ g y) (h : ∀ i, i < 8 → f (e i) = g (e i)) (x : B) : f x = g x := by
  have f0 : f 0#8 = 0#8 := by have := hf 0#8 0#8; simpa using this
  have g0 : g 0#8 = 0#8 := by have := hg 0#8 0#8; simpa using this
  have hb : ∀ i, i < 8 → f (bx x i) = g (bx x i) := fun i hi => by
    unfold bx; split
    · exact h i hi
    · rw [f0, g0]
  rw [parts x]
  simp only [hf, hg]
  rw [hb 0 (by decide), hb 1 (by decide), hb 2 (by decide), hb 3 (by decide), hb 4 (by decide), hb 5 (by decide), hb 6 (by decide), hb 7 (by decide)]
theorem mul_comm (a b : B) : mul a b = mul b a := by
  refine ext8 (f := fun b => mul a b) (g := fun b => mul b a) (mul_add a) (fun x y => add_mul x y a) (fun j hj => ?_) b
  refine ext8 (f := fun a => mul a (e j)) (g := fun a => mul (e j) a) (fun x y => add_mul x y _) (mul_add (e j)) (fun i hi => ?_) a
  have : ∀ i, i < 8 → ∀ j, j < 8 → mul (e i) (e j) = mul (e j) (e i) := by decide +kernel
  exact this i hi j hj
theorem mul_assoc (a b c : B) : mul (mul a b) c = mul a (mul b c) := by
  refine ext8 (f := fun c => mul (mul a b) c) (g := fun c => mul a (mul b c)) (mul_add _) (fun x y => by simp only [mul_add]) (fun k hk => ?_) c
  refine ext8 (f := fun b => mul (mul a b) (e k)) (g := fun b => mul a (mul b (e k))) (fun x y => by simp only [mul_add, add_mul]) (fun x y => by simp only [mul_add, add_mul]) (fun j hj => ?_) b
  refine ext8 (f := fun a => mul (mul a (e j)) (e k)) (g := fun a => mul a (mul (e j) (e k))) (fun x y => by simp only [add_mul]) (fun x y => by simp only [add_mul]) (fun i hi => ?_) a
  have : ∀ i, i < 8 → ∀ j, j < 8 → ∀ k, k < 8 → mul (mul (e i) (e j)) (e k) = mul (e i) (mul (e j) (e k)) := by decide +kernel
  exact this i hi j hj k hk
theorem mul_zero (a : B) : mul a 0#8 = 0#8 := by have := mul_add a 0#8 0#8; simpa using this
theorem zero_mul (a : B) : mul 0#8 a = 0#8 := by rw [mul_comm, mul_zero]
theorem mul_one : ∀ a : B, mul a 1#8 = a := by decide +kernel
theorem one_mul (a : B) : mul 1#8 a = a := by rw [mul_comm, mul_one]
/-! Powers -/
def pw (a : B) : Nat → B
  | 0 => 1#8
  | n + 1 => mul (pw a n) a
theorem pw_add (a : B) (m : Nat) : ∀ n, pw a (m + n) = mul (pw a m) (pw a n)
  | 0 => by simp [pw, mul_one]
  | n + 1 => by rw [← Nat.add_assoc, pw, pw, pw_add a m n, mul_assoc]
theorem pw_mul (a b : B) : ∀ n, pw (mul a b) n = mul (pw a n) (pw b n)
  | 0 => by simp [pw, mul_one]
  | n + 1 => by
    rw [pw, pw, pw, pw_mul a b n, mul_assoc, mul_assoc]
    congr 1
    rw [← mul_assoc, mul_comm (pw b n) a, mul_assoc]
theorem pw_sq (a : B) (n : Nat) : pw (mul a a) n = pw a (2 * n) := by rw [pw_mul, ← pw_add]; congr 1; omega
theorem pw_one (a : B) : pw a 1 = a := by simp [pw, one_mul]
theorem pw_pw (a : B) (m : Nat) : ∀ n, pw (pw a m) n = pw a (m * n)
  | 0 => rfl
  | n + 1 => by rw [pw, pw_pw a m n, Nat.mul_succ, pw_add]
/-- The same by squares. -/
def fp (a : B) : Nat → Nat → B
  | 0, _ => 1#8
  | k + 1, n => if n % 2 = 1 then mul (fp (mul a a) k (n / 2)) a else fp (mul a a) k (n / 2)
theorem fp_eq : ∀ (k n : Nat) (a : B), n < 2 ^ k → fp a k n = pw a n
  | 0, n, a, h => by simp at h; subst h; rfl
  | k + 1, n, a, h => by
    have h2 : n / 2 < 2 ^ k := by rw [Nat.pow_succ] at h; omega
    unfold fp
    rw [fp_eq k (n / 2) _ h2, pw_sq]
    split
    · rename_i h1
      have : n = 2 * (n / 2) + 1 := by omega
      rw [this, pw, show (2 * (n / 2) + 1) / 2 = n / 2 by omega]
    · rename_i h1
      congr 1; omega
def inv (a : B) : B := fp a 8 254
theorem inv_pw (a : B) : inv a = pw a 254 := fp_eq 8 254 a (by decide)
theorem inv_zero : inv 0#8 = 0#8 := by decide +kernel
theorem mul_inv : ∀ a : B, a ≠ 0#8 → mul a (inv a) = 1#8 := by decide +kernel
theorem inv_inv : ∀ a : B, inv (inv a) = a := by decide +kernel
theorem inv_mul (a b : B) : inv (mul a b) = mul (inv a) (inv b) := by rw [inv_pw, inv_pw, inv_pw, pw_mul]
theorem pw_255 (a : B) (h : a ≠ 0#8) : pw a 255 = 1#8 := by
  have : pw a 255 = mul a (inv a) := by rw [inv_pw, show (255 : Nat) = 254 + 1 from rfl, pw, mul_comm]
  rw [this, mul_inv a h]
theorem inv_of {a b : B} (h : mul a b = 1#8) : b = inv a := by
  have ha : a ≠ 0#8 := by rintro rfl; rw [zero_mul] at h; cases h
  have := congrArg (mul (inv a)) h
  rw [← mul_assoc, mul_comm (inv a) a, mul_inv a ha, one_mul, mul_one] at this
  exact this
/-! What 3 makes -/
def lgs : List Nat := [0, 0, 25, 1, 50, 2, 26, 198, 75, 199, 27, 104, 51, 238, 223, 3, 100, 4, 224, 14, 52, 141, 129, 239, 76, 113, 8, 200, 248, 105, 28, 193, 125, 194, 29, 181, 249, 185, 39, 106, 77, 228, 166, 114, 154, 201, 9, 120, 101, 47, 138, 5, 33, 15, 225, 36, 18, 240, 130, 69, 53, 147, 218, 142, 150, 143, 219, 189, 54, 208, 206, 148, 19, 92, 210, 241, 64, 70, 131, 56, 102, 221, 253, 48, 191, 6, 139, 98, 179, 37, 226, 152, 34, 136, 145, 16, 126, 110, 72, 195, 163, 182, 30, 66, 58, 107, 40, 84, 250, 133, 61, 186, 43, 121, 10, 21, 155, 159, 94, 202, 78, 212, 172, 229, 243, 115, 167, 87, 175, 88, 168, 80, 244, 234, 214, 116, 79, 174, 233, 213, 231, 230, 173, 232, 44, 215, 117, 122, 235, 22, 11, 245, 89, 203, 95, 176, 156, 169, 81, 160, 127, 12, 246, 111, 23, 196, 73, 236, 216, 67, 31, 45, 164, 118, 123, 183, 204, 187, 62, 90, 251, 96, 177, 134, 59, 82, 161, 108, 170, 85, 41, 157, 151, 178, 135, 144, 97, 190, 220, 252, 188, 149, 207, 205, 55, 63, 91, 209, 83, 57, 132, 60, 65, 162, 109, 71, 20, 42, 158, 93, 86, 242, 211, 171, 68, 17, 146, 217, 35, 32, 46, 137, 180, 124, 184, 38, 119, 153, 227, 165, 103, 74, 237, 222, 197, 49, 254, 24, 13, 99, 140, 128, 192, 247, 112, 7]
def lg (a : B) : Nat := lgs.getD a.toNat 0
theorem lg_fp : ∀ a : B, a ≠ 0#8 → fp 3#8 8 (lg a) = a ∧ lg a < 255 := by decide +kernel
theorem lg_spec (a : B) (h : a ≠ 0#8) : pw 3#8 (lg a) = a ∧ lg a < 255 := by
  obtain ⟨h1, h2⟩ := lg_fp a h
  exact ⟨by rw [← fp_eq 8 (lg a) _ (by omega)]; exact h1, h2⟩
/-- No two below 255 make one. -/
theorem lg_pw : ∀ n, n < 255 → lg (fp 3#8 8 n) = n := by decide +kernel
theorem lg_first {a : B} {n : Nat} (h : n < 255) (he : pw 3#8 n = a) : lg a = n := by
  rw [← he, ← fp_eq 8 n _ (by omega)]; exact lg_pw n h
theorem inv_lg (a : B) (h : a ≠ 0#8) : pw 3#8 (255 - lg a) = inv a := by
  obtain ⟨h1, h2⟩ := lg_spec a h
  refine inv_of ?_
  have : mul (pw 3#8 (lg a)) (pw 3#8 (255 - lg a)) = 1#8 := by
    rw [← pw_add, show lg a + (255 - lg a) = 255 by omega]
    exact pw_255 _ (by decide)
  rwa [h1] at this
end Go.Proofs.Ytlihfdbfcklkmaa.Pad.Gf
