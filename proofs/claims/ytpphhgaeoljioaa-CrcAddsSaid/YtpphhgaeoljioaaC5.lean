/- Sums of texts that are put together. -/
import Derived.Test.YtpphhgaeoljioaaC3
namespace Go.Proofs.Ytpphhgaeoljioaa
open Go.Proofs.Ytpphhgaeoljioaa.Pad Go.Proofs.Ytpphhgaeoljioaa.Pad.Crc
def w8 (n : Int) : UInt8 := UInt8.ofNat (n % 256).toNat
theorem u8w (n : Int) : IntKind.u8.wrap n = ((w8 n).toNat : Int) := by
  rw [u8_wrap, w8, UInt8.toNat_ofNat']
  omega
theorem u8x (a b : UInt8) : bits .xor .u8 (a.toNat : Int) (b.toNat : Int) = ((a ^^^ b).toNat : Int) := by
  rw [u8_xor_nat _ _ a.toNat_lt b.toNat_lt, UInt8.toNat_xor]
/-- The first ones by a rule. -/
def pref (f : Nat → UInt8) (s : List UInt8) (k : Nat) : List UInt8 := (List.range k).map f ++ s.drop k
theorem pref_len (f : Nat → UInt8) (s : List UInt8) (k : Nat) (h : k ≤ s.length) : (pref f s k).length = s.length := by simp [pref]; omega
theorem pref_set (f : Nat → UInt8) (s : List UInt8) (k : Nat) (h : k < s.length) : (pref f s k).set k (f k) = pref f s (k + 1) := by
  unfold pref
  rw [List.set_append_right _ _ (by simp), List.range_succ, List.map_append, List.append_assoc]
  simp only [List.length_map, List.length_range, Nat.sub_self]
  rw [List.drop_eq_getElem_cons h]
  rfl
theorem pref_zero (f : Nat → UInt8) (s : List UInt8) : pref f s 0 = s := by simp [pref]
theorem pref_all (f : Nat → UInt8) (s : List UInt8) : pref f s s.length = (List.range s.length).map f := by simp [pref]
theorem feed_three (f g h : Nat → UInt8) (x y z : B) : ∀ n, feed (x ^^^ y ^^^ z) ((List.range n).map fun i => f i ^^^ g i ^^^ h i) = feed x ((List.range n).map f) ^^^ feed y ((List.range n).map g) ^^^ feed z ((List.range n).map h)
  | 0 => rfl
  | n + 1 => by
    simp only [List.range_succ, List.map_append, List.map_cons, List.map_nil, feed_snoc]
    rw [feed_three f g h x y z n, ← stepB_xor, ← stepB_xor]
theorem reg3 : reg0 ^^^ reg0 ^^^ reg0 = reg0 := by decide
theorem sum_three (f g h : Nat → UInt8) (n : Nat) : sum ((List.range n).map f) ^^^ sum ((List.range n).map g) ^^^ sum ((List.range n).map h) = sum ((List.range n).map fun i => f i ^^^ g i ^^^ h i) := by
  have e := feed_three f g h reg0 reg0 reg0 n
  rw [reg3] at e
  unfold sum
  rw [e, not_eq, not_eq, not_eq, not_eq]
  generalize feed reg0 ((List.range n).map f) = x
  generalize feed reg0 ((List.range n).map g) = y
  generalize feed reg0 ((List.range n).map h) = z
  apply BitVec.eq_of_getLsbD_eq
  intro i _
  simp only [BitVec.getLsbD_xor]
  cases x.getLsbD i <;> cases y.getLsbD i <;> cases z.getLsbD i <;> cases reg0.getLsbD i <;> rfl
theorem self_range (s : List UInt8) : (List.range s.length).map (fun i => s.getD i 0) = s := by
  apply List.ext_getElem (by simp)
  intro i h1 h2
  simp [List.getElem?_eq_getElem h2]
def fA (p : Int) (i : Nat) : UInt8 := w8 (p.fdiv (2 ^ min (8 * ((i : Int) % 8)).toNat 64))
def fB (q : Int) (i : Nat) : UInt8 := w8 ((w8 (q.fdiv (2 ^ min (8 * ((i : Int) % 8)).toNat 64))).toNat + (w8 i).toNat)
def fC (s : List UInt8) (p q : Int) (i : Nat) : UInt8 := s.getD i 0 ^^^ fA p i ^^^ fB q i
theorem sums_eq (s : List UInt8) (p q : Int) : sum s ^^^ sum (pref (fA p) s s.length) ^^^ sum (pref (fB q) s s.length) = sum (pref (fC s p q) s s.length) := by
  rw [pref_all, pref_all, pref_all]
  have := sum_three (fun i => s.getD i 0) (fA p) (fB q) s.length
  rw [self_range] at this
  exact this
theorem stepB_iff (x y : B) (b : UInt8) : stepB x b = stepB y b ↔ x = y := ⟨stepB_inj, fun h => by rw [h]⟩
theorem skip_xor (x y : B) (n : Nat) : skipN n (x ^^^ y) = skipN n x ^^^ skipN n y := by
  rw [skipN_eq, skipN_eq, skipN_eq, shN_xor]
set_option maxHeartbeats 2000000 in
theorem adds_pf (s : List UInt8) (x y : B) (p q : Int) : PFx Try.prog 7 [.str s, .agg [.int .u32 (rg x), .int .u32 (rg y)], .agg [.int .u64 p, .int .u64 q]] (.bool true) := by
  refine PFx_of_W (rc := rc7) (rs := rs7) Try.func7 rfl T8_ok hm (by kernel_rfl) (by kernel_rfl) (by simp [Try.ntmps7]) ?_
  by_cases h1 : s.length ≤ 200
  · have h1' : ¬ (200 : Int) < s.length := by omega
    have h1'' : s.length ≤ 1000000 := by omega
    have h2 : s.length ≤ 4611686018427387904 := by omega
    simp [rc7, rs7, h1', h1'', -splice, -UInt8.toNat_xor, h2]
    refine W_loop (fun t => ∃ k : Nat, k ≤ s.length ∧ t = [⟨0, .str s, True, false⟩, ⟨4, .box [.int .u32 (rg x), .int .u32 (rg y)], True, false⟩, ⟨5, .box [.int .u64 p, .int .u64 q], True, false⟩,
      ⟨7, .mrow 1 (bytesAV (pref (fA p) s k)) s.length, True, false⟩, ⟨8, .mrow 1 (bytesAV (pref (fB q) s k)) s.length, True, false⟩, ⟨9, .mrow 1 (bytesAV (pref (fC s p q) s k)) s.length, True, false⟩, ⟨10, .int .i64 k, True, false⟩])
      (fun t => (s.length - (t.env 10).toI).toNat) ⟨0, by omega, by simp [pref_zero]⟩ ?_
    rintro t ⟨k, hk, rfl⟩
    by_cases hl : k < s.length
    · have hl' : (k : Int) < s.length := by omega
      have la := pref_len (fA p) s k hk
      have lb := pref_len (fB q) s k hk
      have lc := pref_len (fC s p q) s k hk
      have ka : k < (pref (fA p) s k).length := by omega
      have kb : k < (pref (fB q) s k).length := by omega
      have kc : k < (pref (fC s p q) s k).length := by omega
      have m8 : (k : Int).tmod 8 = (k : Int) % 8 := Int.tmod_eq_emod_of_nonneg (by omega)
      have ea := fun v => bytesAV_splice (pref (fA p) s k) k ka v
      have eb := fun v => bytesAV_splice (pref (fB q) s k) k kb v
      have ec := fun v => bytesAV_splice (pref (fC s p q) s k) k kc v
      simp [hl, hl', -splice, -UInt8.toNat_xor, la, lb, lc, m8, u8w, u8x, IntKind.bits, ea, eb, ec]
      refine ⟨by omega, by omega, by omega, by omega, by omega, by omega, by omega, by omega, by omega, ⟨k + 1, by omega, pref_set (fA p) s k hl, pref_set (fB q) s k hl, ?_, by omega⟩, by omega⟩
      show (pref (fC s p q) s k).set k (s[k] ^^^ fA p k ^^^ fB q k) = _
      rw [show s[k] ^^^ fA p k ^^^ fB q k = fC s p q k by simp [fC, List.getElem?_eq_getElem hl]]
      exact pref_set _ s k hl
    · obtain rfl : k = s.length := by omega
      have la := pref_len (fA p) s s.length (Nat.le_refl _)
      have lb := pref_len (fB q) s s.length (Nat.le_refl _)
      have lc := pref_len (fC s p q) s s.length (Nat.le_refl _)
      have ea := T13_eq (pref (fA p) s s.length) (by omega)
      have eb := T13_eq (pref (fB q) s s.length) (by omega)
      have ec := T13_eq (pref (fC s p q) s s.length) (by omega)
      have e9 : ∀ z : B, T9 9 [.int .u32 (rg z), .int .u8 9] = some (.int .u32 (rg (stepB z 9))) := fun z => T9_eq z 9
      have e3 : skipC 3 = 3 := rfl
      simp [-splice, -UInt8.toNat_xor, h1'', ea, eb, ec, bx_xor, sums_eq, e9, stepB_iff, e3, skip_xor]
  · have h1' : (200 : Int) < s.length := by omega
    simp [rc7, rs7, h1']
end Go.Proofs.Ytpphhgaeoljioaa
