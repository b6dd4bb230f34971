/- The library's tables of characters, and whether a text is one of characters only. No program in it. -/
import Derived.Test.YtbinejcnoogoiaaDoorTM
set_option linter.unusedVariables false
set_option linter.unusedSimpArgs false
namespace Go.Proofs.YtbinejcnoogoiaaDoor.Pad.Utf
open Go.Proofs.YtbinejcnoogoiaaDoor.Pad.Runes Go.Proofs.YtbinejcnoogoiaaDoor.Pad.Route
def fst (k : Nat) : Nat := if k < 128 then 240 else if k < 194 then 241 else if k < 224 then 2 else if k < 225 then 19 else if k < 237 then 3 else if k < 238 then 35 else if k < 240 then 3 else if k < 241 then 52 else if k < 244 then 4 else if k < 245 then 68 else 241
def utf8First : List AV := (List.range 256).map fun k => .int .u8 (fst k)
def acc (k : Nat) : Nat × Nat := if k = 0 then (128, 191) else if k = 1 then (160, 191) else if k = 2 then (128, 159) else if k = 3 then (144, 191) else if k = 4 then (128, 143) else (0, 0)
def acceptR : List AV := (List.range 16).flatMap fun k => [.int .u8 (acc k).1, .int .u8 (acc k).2]
theorem first_len : utf8First.length = 256 := by simp [utf8First]
theorem first_at (k : Nat) (h : k < 256) : (utf8First.drop k)[0]? = some (.int .u8 (fst k)) := by
  simp [utf8First, h]
theorem acc_len : acceptR.length = 32 := by decide
def validL (l : List UInt8) : Bool := !(toks l).any isBad
theorem valid_nil : validL [] = true := rfl
theorem valid_cons {r : List UInt8} (h : r ≠ []) : validL r = (!decide ((nx r 0).1 < 0) && validL (r.drop (nx r 0).2)) := by
  unfold validL
  rw [toks_cons h]
  simp [isBad, Bool.not_or]
theorem nx_ascii (r : List UInt8) (h : at' r 0 < 128) : nx r 0 = (((at' r 0 : Nat) : Int), 1) := by
  unfold nx; rw [if_pos h]
theorem valid_ascii (r : List UInt8) (hr : r ≠ []) (h : at' r 0 < 128) : validL r = validL (r.drop 1) := by
  rw [valid_cons hr, nx_ascii r h]
  simp
theorem valid_skip (r : List UInt8) : ∀ n : Nat, n ≤ r.length → (∀ i, i < n → at' r i < 128) → validL r = validL (r.drop n)
  | 0, _, _ => by simp
  | n + 1, hn, h => by
    rw [valid_skip r n (by omega) fun i hi => h i (by omega), valid_ascii (r.drop n) (by intro e; have := congrArg List.length e; simp at this; omega) (by rw [← at_drop]; exact h n (by omega)), List.drop_drop]
/-- A character of k bytes. -/
theorem valid_k (r : List UInt8) (hr : r ≠ []) (k : Nat) (h0 : 0 ≤ (nx r 0).1) (h1 : (nx r 0).2 = k) : validL r = validL (r.drop k) := by
  rw [valid_cons hr, h1]
  simp [h0]
theorem valid_no (r : List UInt8) (hr : r ≠ []) (h : (nx r 0).1 < 0) : validL r = false := by
  rw [valid_cons hr]
  simp [h]
def w8 (l : List UInt8) (i k : Nat) : BitVec 64 := ((l.getD i 0).toBitVec.setWidth 64) <<< k
def wd (l : List UInt8) : BitVec 64 := w8 l 0 0 ||| w8 l 1 8 ||| w8 l 2 16 ||| w8 l 3 24 ||| w8 l 4 32 ||| w8 l 5 40 ||| w8 l 6 48 ||| w8 l 7 56
def hiB : BitVec 64 := 9259542123273814144#64
theorem or_and (a b : BitVec 64) : ((a ||| b) &&& hiB = 0#64) ↔ (a &&& hiB = 0#64 ∧ b &&& hiB = 0#64) := by
  have e : (a ||| b) &&& hiB = (a &&& hiB) ||| (b &&& hiB) := by
    ext i; simp [Bool.and_or_distrib_right]
  rw [e]
  have key : ∀ x y : BitVec 64, x ||| y = 0#64 ↔ x = 0#64 ∧ y = 0#64 := fun x y => by
    constructor
    · intro h
      have hx : x.toNat ||| y.toNat = 0 := by rw [← BitVec.toNat_or, h]; rfl
      have h1 := Nat.left_le_or (n := x.toNat) (m := y.toNat)
      have h2 := Nat.right_le_or (n := x.toNat) (m := y.toNat)
      exact ⟨BitVec.eq_of_toNat_eq (by show x.toNat = 0; omega), BitVec.eq_of_toNat_eq (by show y.toNat = 0; omega)⟩
    · rintro ⟨h1, h2⟩; rw [h1, h2]; rfl
  exact key _ _
set_option maxRecDepth 100000 in
theorem w8_hi (l : List UInt8) (i k : Nat) (hk : k = 0 ∨ k = 8 ∨ k = 16 ∨ k = 24 ∨ k = 32 ∨ k = 40 ∨ k = 48 ∨ k = 56) : (w8 l i k &&& hiB = 0#64) ↔ at' l i < 128 := by
  have hb := (l.getD i 0).toNat_lt
  have e : w8 l i k = (BitVec.ofNat 64 (at' l i)) <<< k := by
    unfold w8 at'
    congr 1
    apply BitVec.eq_of_toNat_eq
    rw [BitVec.toNat_setWidth, BitVec.toNat_ofNat]
    rfl
  rw [e]
  have hn : at' l i < 256 := hb
  generalize at' l i = n at hn
  clear e hb
  rcases hk with rfl | rfl | rfl | rfl | rfl | rfl | rfl | rfl
  all_goals (revert n; decide +kernel)
theorem wd_hi (l : List UInt8) : (wd l &&& hiB = 0#64) ↔ ∀ i, i < 8 → at' l i < 128 := by
  unfold wd
  simp only [or_and]
  rw [w8_hi l 0 0 (by simp), w8_hi l 1 8 (by simp), w8_hi l 2 16 (by simp), w8_hi l 3 24 (by simp), w8_hi l 4 32 (by simp), w8_hi l 5 40 (by simp), w8_hi l 6 48 (by simp), w8_hi l 7 56 (by simp)]
  constructor
  · rintro ⟨⟨⟨⟨⟨⟨⟨h0, h1⟩, h2⟩, h3⟩, h4⟩, h5⟩, h6⟩, h7⟩ i hi
    match i, hi with
    | 0, _ => exact h0
    | 1, _ => exact h1
    | 2, _ => exact h2
    | 3, _ => exact h3
    | 4, _ => exact h4
    | 5, _ => exact h5
    | 6, _ => exact h6
    | 7, _ => exact h7
  · intro h
    exact ⟨⟨⟨⟨⟨⟨⟨h 0 (by omega), h 1 (by omega)⟩, h 2 (by omega)⟩, h 3 (by omega)⟩, h 4 (by omega)⟩, h 5 (by omega)⟩, h 6 (by omega)⟩, h 7 (by omega)⟩
theorem sh_bv (b : UInt8) (k : Nat) : IntKind.u64.wrap ((b.toNat : Int) * ((2 ^ k : Nat) : Int)) = bv ((b.toBitVec.setWidth 64) <<< k) := by
  rw [show (b.toNat : Int) * ((2 ^ k : Nat) : Int) = ((b.toNat * 2 ^ k : Nat) : Int) by push_cast; rfl, bv_wrap64]
  congr 1
  apply BitVec.eq_of_toNat_eq
  have hb := b.toNat_lt
  rw [BitVec.toNat_ofNat, BitVec.toNat_shiftLeft, BitVec.toNat_setWidth, Nat.shiftLeft_eq]
  show _ = b.toNat % 2 ^ 64 * 2 ^ k % 2 ^ 64
  rw [Nat.mod_eq_of_lt (by omega : b.toNat < 2 ^ 64)]
set_option maxRecDepth 100000 in
theorem fst_tab : ∀ n, n < 256 → fst n / 16 < 16 ∧ bits .and .u8 (fst n : Nat) 7 = ((fst n % 8 : Nat) : Int) ∧ ((fst n : Nat) : Int).fdiv (2 ^ min 4 IntKind.u8.bits) = ((fst n / 16 : Nat) : Int) := by decide +kernel
theorem acc_at (k : Nat) (h : k < 16) : acceptR[k * 2]? = some (.int .u8 ((acc k).1 : Nat)) ∧ acceptR[k * 2 + 1]? = some (.int .u8 ((acc k).2 : Nat)) := by
  match k, h with
  | 0, _ => exact ⟨rfl, rfl⟩
  | 1, _ => exact ⟨rfl, rfl⟩
  | 2, _ => exact ⟨rfl, rfl⟩
  | 3, _ => exact ⟨rfl, rfl⟩
  | 4, _ => exact ⟨rfl, rfl⟩
  | 5, _ => exact ⟨rfl, rfl⟩
  | 6, _ => exact ⟨rfl, rfl⟩
  | 7, _ => exact ⟨rfl, rfl⟩
  | 8, _ => exact ⟨rfl, rfl⟩
  | 9, _ => exact ⟨rfl, rfl⟩
  | 10, _ => exact ⟨rfl, rfl⟩
  | 11, _ => exact ⟨rfl, rfl⟩
  | 12, _ => exact ⟨rfl, rfl⟩
  | 13, _ => exact ⟨rfl, rfl⟩
  | 14, _ => exact ⟨rfl, rfl⟩
  | 15, _ => exact ⟨rfl, rfl⟩
  | k + 16, h => omega
/-- Where a character of more bytes may begin, and what its second byte may be. -/
def lo (n : Nat) : Nat := (acc (fst n / 16)).1
def hi (n : Nat) : Nat := (acc (fst n / 16)).2
set_option maxRecDepth 100000 in
theorem kind1 : ∀ n, n < 256 → 128 ≤ n → n < 194 ∨ 245 ≤ n → fst n % 8 = 1 := by decide +kernel
set_option maxRecDepth 100000 in
theorem kind2 : ∀ n, n < 256 → 194 ≤ n → n < 224 → fst n % 8 = 2 ∧ lo n = 128 ∧ hi n = 191 := by decide +kernel
set_option maxRecDepth 100000 in
theorem kind3 : ∀ n, n < 256 → 224 ≤ n → n < 240 → fst n % 8 = 3 ∧ lo n = (if n = 224 then 160 else 128) ∧ hi n = (if n = 237 then 159 else 191) := by decide +kernel
set_option maxRecDepth 100000 in
theorem kind4 : ∀ n, n < 256 → 240 ≤ n → n < 245 → fst n % 8 = 4 ∧ lo n = (if n = 240 then 144 else 128) ∧ hi n = (if n = 244 then 143 else 191) := by decide +kernel
theorem tl_iff (r : List UInt8) (k : Nat) : tl r k = true ↔ k < r.length ∧ 128 ≤ at' r k ∧ at' r k < 192 := by simp [tl]; omega
theorem bad1 (r : List UInt8) (h : 128 ≤ at' r 0) (h1 : at' r 0 < 194 ∨ 245 ≤ at' r 0) : (nx r 0).1 < 0 := by
  have t1 := tl_iff r 1; have t2 := tl_iff r 2; have t3 := tl_iff r 3
  have hb : ∀ k, at' r k < 256 := fun k => (r.getD k 0).toNat_lt
  have := hb 1
  unfold nx
  simp only [Nat.zero_add]
  rw [if_neg (by omega), if_neg (by rintro ⟨e, f, g⟩; have := t1.1 f; omega), if_neg (by omega), if_neg (by rintro ⟨e, f, g⟩; omega)]
  decide
theorem two (r : List UInt8) (h : 194 ≤ at' r 0 ∧ at' r 0 < 224) : (1 < r.length ∧ 128 ≤ at' r 1 ∧ at' r 1 ≤ 191 → 0 ≤ (nx r 0).1 ∧ (nx r 0).2 = 2) ∧ (¬ (1 < r.length ∧ 128 ≤ at' r 1 ∧ at' r 1 ≤ 191) → (nx r 0).1 < 0) := by
  have t1 := tl_iff r 1
  constructor
  · intro g
    have g1 := t1.2 ⟨g.1, g.2.1, by omega⟩
    rw [nx, if_neg (by omega), if_pos ⟨by omega, g1, by simp only [Nat.zero_add]; omega⟩]
    simp
    omega
  · intro g
    rw [nx, if_neg (by omega), if_neg (by rintro ⟨_, f, _⟩; have := t1.1 f; omega), if_neg (by omega), if_neg (by omega)]
    decide
theorem three (r : List UInt8) (h : 224 ≤ at' r 0 ∧ at' r 0 < 240) (a b : Nat) (ha : a = (if at' r 0 = 224 then 160 else 128)) (hb : b = (if at' r 0 = 237 then 159 else 191)) :
    (2 < r.length ∧ a ≤ at' r 1 ∧ at' r 1 ≤ b ∧ 128 ≤ at' r 2 ∧ at' r 2 ≤ 191 → 0 ≤ (nx r 0).1 ∧ (nx r 0).2 = 3) ∧ (¬ (2 < r.length ∧ a ≤ at' r 1 ∧ at' r 1 ≤ b ∧ 128 ≤ at' r 2 ∧ at' r 2 ≤ 191) → (nx r 0).1 < 0) := by
  have t1 := tl_iff r 1; have t2 := tl_iff r 2
  constructor
  · rintro ⟨g0, g1, g2, g3, g4⟩
    have f1 := t1.2 ⟨by omega, by split at ha <;> omega, by split at hb <;> omega⟩
    have f2 := t2.2 ⟨by omega, by omega, by omega⟩
    rw [nx, if_neg (by omega), if_neg (by omega), if_pos ⟨by omega, f1, f2, by simp only [Nat.zero_add]; split at ha <;> omega, by simp only [Nat.zero_add]; split at hb <;> omega⟩]
    simp
    omega
  · intro g
    rw [nx, if_neg (by omega), if_neg (by omega), if_neg ?_, if_neg (by omega)]
    · decide
    · rintro ⟨_, f1, f2, f3, f4⟩
      simp only [Nat.zero_add] at f1 f2 f3 f4
      have f1 := t1.1 f1; have f2 := t2.1 f2
      apply g
      refine ⟨by omega, by split at ha <;> omega, by split at hb <;> omega, by omega, by omega⟩
theorem four (r : List UInt8) (h : 240 ≤ at' r 0 ∧ at' r 0 < 245) (a b : Nat) (ha : a = (if at' r 0 = 240 then 144 else 128)) (hb : b = (if at' r 0 = 244 then 143 else 191)) :
    (3 < r.length ∧ a ≤ at' r 1 ∧ at' r 1 ≤ b ∧ 128 ≤ at' r 2 ∧ at' r 2 ≤ 191 ∧ 128 ≤ at' r 3 ∧ at' r 3 ≤ 191 → 0 ≤ (nx r 0).1 ∧ (nx r 0).2 = 4) ∧
    (¬ (3 < r.length ∧ a ≤ at' r 1 ∧ at' r 1 ≤ b ∧ 128 ≤ at' r 2 ∧ at' r 2 ≤ 191 ∧ 128 ≤ at' r 3 ∧ at' r 3 ≤ 191) → (nx r 0).1 < 0) := by
  have t1 := tl_iff r 1; have t2 := tl_iff r 2; have t3 := tl_iff r 3
  constructor
  · rintro ⟨g0, g1, g2, g3, g4, g5, g6⟩
    have f1 := t1.2 ⟨by omega, by split at ha <;> omega, by split at hb <;> omega⟩
    have f2 := t2.2 ⟨by omega, by omega, by omega⟩
    have f3 := t3.2 ⟨by omega, by omega, by omega⟩
    rw [nx, if_neg (by omega), if_neg (by omega), if_neg (by omega), if_pos ⟨by omega, f1, f2, f3, by simp only [Nat.zero_add]; split at ha <;> omega, by simp only [Nat.zero_add]; split at hb <;> omega⟩]
    simp
    omega
  · intro g
    rw [nx, if_neg (by omega), if_neg (by omega), if_neg (by omega), if_neg ?_]
    · decide
    · rintro ⟨_, f1, f2, f3, f4, f5⟩
      simp only [Nat.zero_add] at f1 f2 f3 f4 f5
      have f1 := t1.1 f1; have f2 := t2.1 f2; have f3 := t3.1 f3
      apply g
      refine ⟨by omega, by split at ha <;> omega, by split at hb <;> omega, by omega, by omega, by omega, by omega⟩
end Go.Proofs.YtbinejcnoogoiaaDoor.Pad.Utf
