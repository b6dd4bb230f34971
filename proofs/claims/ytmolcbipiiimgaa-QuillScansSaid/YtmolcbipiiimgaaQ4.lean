import Derived.Test.YtmolcbipiiimgaaQ1
import Derived.Test.YtmolcbipiiimgaaQC
set_option linter.unusedVariables false
set_option linter.unusedSimpArgs false
namespace Go.Proofs.Ytmolcbipiiimgaa
open Go.Proofs.Ytmolcbipiiimgaa.Pad
variable {T : Tab}
def numOf (l : List UInt8) : Nat := l.foldl (fun n b => 256 * n + b.toNat) 0
theorem numOf_snoc (l : List UInt8) (b : UInt8) : numOf (l ++ [b]) = 256 * numOf l + b.toNat := by simp [numOf]
theorem numOf_lt_go : ∀ (l : List UInt8), numOf l.reverse < 256 ^ l.length
  | [] => by simp [numOf]
  | b :: l => by
    have := numOf_lt_go l
    rw [List.reverse_cons, numOf_snoc, List.length_cons, Nat.pow_succ]
    have := b.toNat_lt; omega
theorem numOf_lt (l : List UInt8) : numOf l < 256 ^ l.length := by
  have := numOf_lt_go l.reverse
  rwa [List.reverse_reverse, List.length_reverse] at this
def takeNum (t : List UInt8) (a b size : Int) : Nat × Int × Int :=
  if b ≠ 0 then (0, a, b) else if ¬ (0 ≤ a ∧ a ≤ t.length) ∨ size < 1 ∨ 8 < size then (0, a, 2)
  else if t.length - a < size then (0, a, 3) else (numOf ((t.drop a.toNat).take size.toNat), a + size, 0)
theorem valid_pf (hT : Sound Try.prog T) (t : List UInt8) (a b : Int) : PFx Try.prog 33 [.agg [.str t, .int .i64 a, .int .i64 b]] (.bool (decide (0 ≤ a ∧ a ≤ t.length))) := by
  refine PFx_of_W (rc := rc33) (rs := rs33) Try.func33 rfl hT hm (by kernel_rfl) (by kernel_rfl) (by simp [Try.ntmps33]) ?_
  simp [rc33, rs33, -W_condI, ↓W_cond]
theorem stands_pf (hT : Sound Try.prog T) (t : List UInt8) (a b : Int) : PFx Try.prog 35 [.agg [.str t, .int .i64 a, .int .i64 b]] (.bool (decide (0 ≤ a ∧ a ≤ t.length))) := by
  refine PFx_of_W (rc := rc35) (rs := rs35) Try.func35 rfl hT hm (by kernel_rfl) (by kernel_rfl) (by simp [Try.ntmps35]) ?_
  simp [rc35, rs35, -W_condI, ↓W_cond]
theorem left_pf (hT : Sound Try.prog T) (t : List UInt8) (a b : Int) (h : 0 ≤ a ∧ a ≤ t.length ∧ t.length ≤ 1000000) : PFx Try.prog 36 [.agg [.str t, .int .i64 a, .int .i64 b]] (.int .i64 (t.length - a)) := by
  refine PFx_of_W (rc := rc36) (rs := rs36) Try.func36 rfl hT hm (by kernel_rfl) (by kernel_rfl) (by simp [Try.ntmps36]) ?_
  simp [rc36, rs36, -W_condI, ↓W_cond]
  omega
theorem fail_pf (hT : Sound Try.prog T) (t : List UInt8) (a b e : Int) : PFx Try.prog 37 [.agg [.str t, .int .i64 a, .int .i64 b], .int .i64 e] (.agg [.str t, .int .i64 a, .int .i64 e]) := by
  refine PFx_of_W (rc := rc37) (rs := rs37) Try.func37 rfl hT hm (by kernel_rfl) (by kernel_rfl) (by simp [Try.ntmps37]) ?_
  simp [rc37, rs37, -W_condI, ↓W_cond]
theorem rbad_pf (hT : Sound Try.prog T) (t : List UInt8) (a b e : Int) : PFx Try.prog 38 [.agg [.str t, .int .i64 a, .int .i64 b], .int .i64 e] (.agg [.str t, .int .i64 a, .int .i64 e]) := by
  refine PFx_of_W (rc := rc38) (rs := rs38) Try.func38 rfl hT hm (by kernel_rfl) (by kernel_rfl) (by simp [Try.ntmps38]) ?_
  simp [rc38, rs38, -W_condI, ↓W_cond]
  all_goals (rintro x ((rfl | rfl) | rfl) <;> rfl)
theorem cut_pf (hT : Sound Try.prog T) (t : List UInt8) (a b e : Int) (h : 0 ≤ a ∧ a ≤ e ∧ e ≤ t.length ∧ t.length ≤ 1000000) : PFx Try.prog 34 [.agg [.str t, .int .i64 a, .int .i64 b], .int .i64 e] (.str ((t.take e.toNat).drop a.toNat)) := by
  refine PFx_of_W (rc := rc34) (rs := rs34) Try.func34 rfl (t39_ok hT) hm (by kernel_rfl) (by kernel_rfl) (by simp [Try.ntmps34]) ?_
  have q : ((t.take e.toNat).drop a.toNat).length ≤ 1000000 := by simp; omega
  have e := t39_eq (T := T) _ q
  simp [rc34, rs34, e, -W_condI, ↓W_cond]
  omega
noncomputable def t33 (T : Tab) : Tab := tabAdd T 33 (fun _ : List UInt8 × Int × Int => True) (fun x => [.agg [.str x.1, .int .i64 x.2.1, .int .i64 x.2.2]]) (fun x => .bool (decide (0 ≤ x.2.1 ∧ x.2.1 ≤ x.1.length)))
@[simp] theorem t33_eq (t : List UInt8) (a : Int) (b : Int) : t33 T 33 [.agg [.str t, .int .i64 a, .int .i64 b]] = some (.bool (decide (0 ≤ a ∧ a ≤ t.length))) := tabAdd_eq (a := (t, a, b)) (by simp +contextual) trivial rfl
@[simp] theorem t33_ne {g : Nat} {xs : List AV} (h : g ≠ 33) : t33 T g xs = T g xs := tabAdd_ne h
theorem t33_ok (hT : Sound Try.prog T) : Sound Try.prog (t33 T) := tabAdd_sound hT fun x _ => valid_pf hT x.1 x.2.1 x.2.2
noncomputable def t35 (T : Tab) : Tab := tabAdd T 35 (fun _ : List UInt8 × Int × Int => True) (fun x => [.agg [.str x.1, .int .i64 x.2.1, .int .i64 x.2.2]]) (fun x => .bool (decide (0 ≤ x.2.1 ∧ x.2.1 ≤ x.1.length)))
@[simp] theorem t35_eq (t : List UInt8) (a : Int) (b : Int) : t35 T 35 [.agg [.str t, .int .i64 a, .int .i64 b]] = some (.bool (decide (0 ≤ a ∧ a ≤ t.length))) := tabAdd_eq (a := (t, a, b)) (by simp +contextual) trivial rfl
@[simp] theorem t35_ne {g : Nat} {xs : List AV} (h : g ≠ 35) : t35 T g xs = T g xs := tabAdd_ne h
theorem t35_ok (hT : Sound Try.prog T) : Sound Try.prog (t35 T) := tabAdd_sound hT fun x _ => stands_pf hT x.1 x.2.1 x.2.2
noncomputable def t36 (T : Tab) : Tab := tabAdd T 36 (fun x : List UInt8 × Int × Int => 0 ≤ x.2.1 ∧ x.2.1 ≤ x.1.length ∧ x.1.length ≤ 1000000) (fun x => [.agg [.str x.1, .int .i64 x.2.1, .int .i64 x.2.2]]) (fun x => .int .i64 (x.1.length - x.2.1))
@[simp] theorem t36_eq (t : List UInt8) (a : Int) (b : Int) (h : 0 ≤ a ∧ a ≤ t.length ∧ t.length ≤ 1000000) : t36 T 36 [.agg [.str t, .int .i64 a, .int .i64 b]] = some (.int .i64 (t.length - a)) := tabAdd_eq (a := (t, a, b)) (by simp +contextual) h rfl
@[simp] theorem t36_ne {g : Nat} {xs : List AV} (h : g ≠ 36) : t36 T g xs = T g xs := tabAdd_ne h
theorem t36_ok (hT : Sound Try.prog T) : Sound Try.prog (t36 T) := tabAdd_sound hT fun x h => left_pf hT x.1 x.2.1 x.2.2 h
noncomputable def t37 (T : Tab) : Tab := tabAdd T 37 (fun _ : List UInt8 × Int × Int × Int => True) (fun x => [.agg [.str x.1, .int .i64 x.2.1, .int .i64 x.2.2.1], .int .i64 x.2.2.2]) (fun x => .agg [.str x.1, .int .i64 x.2.1, .int .i64 x.2.2.2])
@[simp] theorem t37_eq (t : List UInt8) (a : Int) (b : Int) (e : Int) : t37 T 37 [.agg [.str t, .int .i64 a, .int .i64 b], .int .i64 e] = some (.agg [.str t, .int .i64 a, .int .i64 e]) := tabAdd_eq (a := (t, a, b, e)) (by simp +contextual) trivial rfl
@[simp] theorem t37_ne {g : Nat} {xs : List AV} (h : g ≠ 37) : t37 T g xs = T g xs := tabAdd_ne h
theorem t37_ok (hT : Sound Try.prog T) : Sound Try.prog (t37 T) := tabAdd_sound hT fun x _ => fail_pf hT x.1 x.2.1 x.2.2.1 x.2.2.2
noncomputable def t38 (T : Tab) : Tab := tabAdd T 38 (fun _ : List UInt8 × Int × Int × Int => True) (fun x => [.agg [.str x.1, .int .i64 x.2.1, .int .i64 x.2.2.1], .int .i64 x.2.2.2]) (fun x => .agg [.str x.1, .int .i64 x.2.1, .int .i64 x.2.2.2])
@[simp] theorem t38_eq (t : List UInt8) (a : Int) (b : Int) (e : Int) : t38 T 38 [.agg [.str t, .int .i64 a, .int .i64 b], .int .i64 e] = some (.agg [.str t, .int .i64 a, .int .i64 e]) := tabAdd_eq (a := (t, a, b, e)) (by simp +contextual) trivial rfl
@[simp] theorem t38_ne {g : Nat} {xs : List AV} (h : g ≠ 38) : t38 T g xs = T g xs := tabAdd_ne h
theorem t38_ok (hT : Sound Try.prog T) : Sound Try.prog (t38 T) := tabAdd_sound hT fun x _ => rbad_pf hT x.1 x.2.1 x.2.2.1 x.2.2.2
noncomputable def t34 (T : Tab) : Tab := tabAdd T 34 (fun x : List UInt8 × Int × Int × Int => 0 ≤ x.2.1 ∧ x.2.1 ≤ x.2.2.2 ∧ x.2.2.2 ≤ x.1.length ∧ x.1.length ≤ 1000000) (fun x => [.agg [.str x.1, .int .i64 x.2.1, .int .i64 x.2.2.1], .int .i64 x.2.2.2]) (fun x => .str ((x.1.take x.2.2.2.toNat).drop x.2.1.toNat))
@[simp] theorem t34_eq (t : List UInt8) (a : Int) (b : Int) (e : Int) (h : 0 ≤ a ∧ a ≤ e ∧ e ≤ t.length ∧ t.length ≤ 1000000) : t34 T 34 [.agg [.str t, .int .i64 a, .int .i64 b], .int .i64 e] = some (.str ((t.take e.toNat).drop a.toNat)) := tabAdd_eq (a := (t, a, b, e)) (by simp +contextual) h rfl
@[simp] theorem t34_ne {g : Nat} {xs : List AV} (h : g ≠ 34) : t34 T g xs = T g xs := tabAdd_ne h
theorem t34_ok (hT : Sound Try.prog T) : Sound Try.prog (t34 T) := tabAdd_sound hT fun x h => cut_pf hT x.1 x.2.1 x.2.2.1 x.2.2.2 h
theorem or_byte (m b : Nat) (hb : b < 256) (hm : m * 256 + b < 18446744073709551616) : bits .or .u64 ((m : Int) * 256) b = ((m * 256 + b : Nat) : Int) := by
  show IntKind.u64.wrap (((BitVec.ofInt 64 ((m : Int) * 256) ||| BitVec.ofInt 64 (b : Int)).toNat : Nat) : Int) = _
  have e1 : BitVec.ofInt 64 ((m : Int) * 256) = BitVec.ofNat 64 (m * 256) := by rw [← BitVec.ofInt_natCast]; simp
  have e2 : BitVec.ofInt 64 (b : Int) = BitVec.ofNat 64 b := by rw [← BitVec.ofInt_natCast]
  have m1 : m * 256 % 18446744073709551616 = m * 256 := by omega
  have m2 : b % 18446744073709551616 = b := by omega
  rw [e1, e2]
  simp only [BitVec.toNat_or, BitVec.toNat_ofNat, Nat.reducePow]
  rw [m1, m2, Nat.mul_comm m 256]
  have := Nat.two_pow_add_eq_or_of_lt (i := 8) hb m
  rw [show (256 : Nat) = 2 ^ 8 from rfl, ← this, wrap_u64]
  omega
theorem num_step {t : List UInt8} {i k : Nat} (h : i + k < t.length) : numOf ((t.drop i).take (k + 1)) = 256 * numOf ((t.drop i).take k) + (t.getD (i + k) 0).toNat := by
  rw [List.take_add_one, List.getElem?_drop, List.getElem?_eq_getElem h, Option.toList_some, numOf_snoc, List.getD_eq_getElem?_getD, List.getElem?_eq_getElem h]; rfl
theorem num_lt7 {t : List UInt8} {i k : Nat} (h : k ≤ 7) : numOf ((t.drop i).take k) < 72057594037927936 := by
  have h1 := numOf_lt ((t.drop i).take k)
  have h2 : ((t.drop i).take k).length ≤ 7 := by simp; omega
  have h3 : 256 ^ ((t.drop i).take k).length ≤ 256 ^ 7 := Nat.pow_le_pow_right (by omega) h2
  rw [show (256 : Nat) ^ 7 = 72057594037927936 from rfl] at h3
  omega
set_option maxHeartbeats 2000000 in
theorem snum_pf (hT : Sound Try.prog T) (t : List UInt8) (a b size : Int) (h : t.length ≤ 1000000) : PFx Try.prog 24 [.agg [.str t, .int .i64 a, .int .i64 b], .int .i64 size] (.tup [.int .u64 (takeNum t a b size).1, .agg [.str t, .int .i64 (takeNum t a b size).2.1, .int .i64 (takeNum t a b size).2.2]]) := by
  refine PFx_of_W (rc := rc24) (rs := rs24) Try.func24 rfl (t31_ok (t33_ok (t36_ok (t37_ok hT)))) hm (by kernel_rfl) (by kernel_rfl) (by simp [Try.ntmps24]) ?_
  by_cases hb : b = 0
  · subst hb
    by_cases hv : (0 ≤ a ∧ a ≤ t.length) ∧ 1 ≤ size ∧ size ≤ 8
    · obtain ⟨⟨v1, v2⟩, v3, v4⟩ := hv
      simp [rc24, rs24, v1, v2, v3, v4, h, -W_condI, ↓W_cond]
      refine ⟨fun hs => ?_, fun hs => ?_⟩
      · have e : takeNum t a 0 size = (0, a, 3) := by
          unfold takeNum; rw [if_neg (by simp), if_neg (by omega), if_pos hs]
        simp [e, -W_condI, ↓W_cond]
      have e : takeNum t a 0 size = (numOf ((t.drop a.toNat).take size.toNat), a + size, 0) := by
        unfold takeNum; rw [if_neg (by simp), if_neg (by omega), if_neg (by omega)]
      refine W_loop (fun s => ∃ k : Nat, k ≤ size.toNat ∧ s = [⟨2, .box [.str t, .int .i64 (a + k), .int .i64 0], True, false⟩, ⟨5, .box [.str [], .int .i64 0, .int .i64 0], True, false⟩, ⟨6, .int .u64 (numOf ((t.drop a.toNat).take k)), True, false⟩, ⟨27, .int .i64 size, True, false⟩, ⟨28, .int .i64 k, True, false⟩]) (fun s => (size - (s.env 28).toI).toNat) ⟨0, by omega, by simp [numOf]⟩ ?_
      rintro s ⟨k, hk, rfl⟩
      rcases Nat.lt_or_ge k size.toNat with hlt | hge
      · have g1 : (k : Int) < size := by omega
        have g2 : 0 ≤ a + k := by omega
        have g3 : a + k < t.length := by omega
        simp [g1, g2, g3, -W_condI, ↓W_cond]
        have gt : (a + (k : Int)).toNat = a.toNat + k := by omega
        have hi : (a + (k : Int)).toNat < t.length := by omega
        have st := num_step (t := t) (i := a.toNat) (k := k) (by omega)
        have ge : t.getD (a.toNat + k) 0 = t[(a + (k : Int)).toNat] := by
          rw [← gt, List.getD_eq_getElem?_getD, List.getElem?_eq_getElem hi]; rfl
        have lt := num_lt7 (t := t) (i := a.toNat) (k := k) (by omega)
        have bl := (t[(a + (k : Int)).toNat]).toNat_lt
        rw [ge] at st
        refine ⟨by omega, by omega, by omega, ⟨k + 1, by omega, by omega, ?_, by omega⟩, by omega⟩
        rw [st]
        generalize numOf ((t.drop a.toNat).take k) = m at lt ⊢
        rw [show (2 : Int) ^ min 8 IntKind.u64.bits = 256 from rfl, wrap_u64, Int.emod_eq_of_lt (by omega) (by omega), or_byte m _ (by omega) (by omega)]
        omega
      · obtain rfl : k = size.toNat := by omega
        have g1 : ¬ (size.toNat : Int) < size := by omega
        simp [g1, e, -W_condI, ↓W_cond]
        omega
    · have e : takeNum t a 0 size = (0, a, 2) := by
        unfold takeNum; rw [if_neg (by simp), if_pos (by omega)]
      have hv' : ¬ (0 ≤ a ∧ a ≤ (t.length : Int)) ∨ ¬ (1 ≤ size ∧ size ≤ 8) := by omega
      simp [rc24, rs24, e, -W_condI, ↓W_cond]
      omega
  · have e : takeNum t a b size = (0, a, b) := by unfold takeNum; rw [if_pos hb]
    simp [rc24, rs24, hb, e]
end Go.Proofs.Ytmolcbipiiimgaa
