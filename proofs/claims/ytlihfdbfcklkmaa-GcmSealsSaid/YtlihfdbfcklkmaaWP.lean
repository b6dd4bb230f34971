/- The state of a call, and its key stream. No program is in here. -/
import Derived.Test.YtlihfdbfcklkmaaWM
set_option linter.unusedVariables false
set_option linter.unusedSimpArgs false
namespace Go.Proofs.Ytlihfdbfcklkmaa.Pad
theorem splice_r (a b ys : List AV) (off : Nat) : splice (a ++ b) (a.length + off) ys = a ++ splice b off ys := by
  unfold splice
  rw [List.take_append, List.drop_append, List.take_of_length_le (by omega), List.drop_eq_nil_of_le (by omega)]
  simp [Nat.add_sub_cancel_left, Nat.add_assoc]
theorem splice_l (a b ys : List AV) (off : Nat) (h : off + ys.length ≤ a.length) : splice (a ++ b) off ys = splice a off ys ++ b := by
  unfold splice
  rw [List.take_append_of_le_length (by omega), List.drop_append_of_le_length h]
  simp only [List.append_assoc]
end Go.Proofs.Ytlihfdbfcklkmaa.Pad
namespace Go.Proofs.Ytlihfdbfcklkmaa.Pad.Gc
open Go.Proofs.Ytlihfdbfcklkmaa.Pad.Ci Go.Proofs.Ytlihfdbfcklkmaa.Pad.Gh
/-- Rounds, a block for the counter, and a number. -/
def stA (r c : Bl) (n : BitVec 32) : List AV := vec8 176 r ++ (vec8 16 c ++ [.int .u32 (bv n)])
@[simp] theorem stA_len (r c : Bl) (n : BitVec 32) : (stA r c n).length = 193 := by simp [stA]
@[simp] theorem stA_all (r c : Bl) (n : BitVec 32) : (stA r c n).take 193 = stA r c n := List.take_of_length_le (by simp)
@[simp] theorem stA_rounds (r c : Bl) (n : BitVec 32) : (stA r c n).take 176 = vec8 176 r := List.take_left' (by simp)
theorem stA_drop (r c : Bl) (n : BitVec 32) : (stA r c n).drop 176 = vec8 16 c ++ [.int .u32 (bv n)] := List.drop_left' (by simp)
@[simp] theorem stA_counter (r c : Bl) (n : BitVec 32) : ((stA r c n).drop 176).take 16 = vec8 16 c := by rw [stA_drop]; exact List.take_left' (by simp)
@[simp] theorem stA_number (r c : Bl) (n : BitVec 32) : (stA r c n)[192]? = some (.int .u32 (bv n)) := by
  unfold stA
  rw [List.getElem?_append_right (by simp), List.getElem?_append_right (by simp)]; simp
@[simp] theorem stA_number' (r c : Bl) (n : BitVec 32) : (stA r c n).getD 192 .bad = .int .u32 (bv n) := by
  rw [List.getD_eq_getElem?_getD, stA_number]; rfl
@[simp] theorem stA_number2 (r c : Bl) (n : BitVec 32) (h : 192 < (stA r c n).length) : (stA r c n)[192] = .int .u32 (bv n) := by
  have := stA_number r c n
  rw [List.getElem?_eq_getElem h] at this
  exact Option.some.inj this
theorem stA_put_number (r c : Bl) (n m : BitVec 32) : splice (stA r c n) 192 [.int .u32 (bv m)] = stA r c m := by
  unfold stA
  have h1 := splice_r (vec8 176 r) (vec8 16 c ++ [.int .u32 (bv n)]) [.int .u32 (bv m)] 16
  have h2 := splice_r (vec8 16 c) [.int .u32 (bv n)] [.int .u32 (bv m)] 0
  rw [vec8_len] at h1 h2
  rw [h1, h2]; rfl
theorem stA_put (r c g : Bl) (n : BitVec 32) (off m : Nat) (h : off + m ≤ 16) : splice (stA r c n) (176 + off) (vec8 m g) = stA r (fun i => if off ≤ i ∧ i < off + m then g (i - off) else c i) n := by
  unfold stA
  have h1 := splice_r (vec8 176 r) (vec8 16 c ++ [.int .u32 (bv n)]) (vec8 m g) off
  rw [vec8_len] at h1
  rw [h1, splice_l _ _ _ _ (by simpa using h), vec8_splice _ _ _ _ _ h]
theorem stA_put_rounds (r r' c : Bl) (n : BitVec 32) : splice (stA r c n) 0 (vec8 176 r') = stA r' c n := by
  unfold stA
  rw [splice_l _ _ _ _ (by simp), vec8_splice _ _ _ _ _ (by omega)]
  congr 1
@[simp] theorem stA_mem (r c : Bl) (n : BitVec 32) (p : AV → Prop) : (∀ x, x ∈ stA r c n → p x) ↔ (∀ i, i < 176 → p (.int .u8 (bv (r i)))) ∧ (∀ i, i < 16 → p (.int .u8 (bv (c i)))) ∧ p (.int .u32 (bv n)) := by
  rw [← vec8_mem, ← vec8_mem]
  unfold stA
  constructor
  · intro h
    exact ⟨fun x hx => h x (List.mem_append_left _ hx), fun x hx => h x (List.mem_append_right _ (List.mem_append_left _ hx)), h _ (List.mem_append_right _ (List.mem_append_right _ (List.mem_singleton.2 rfl)))⟩
  · rintro ⟨h1, h2, h3⟩ x hx
    rcases List.mem_append.1 hx with hx | hx
    · exact h1 x hx
    · rcases List.mem_append.1 hx with hx | hx
      · exact h2 x hx
      · rw [List.mem_singleton.1 hx]; exact h3
@[simp] theorem stA_inj (r c r' c' : Bl) (n n' : BitVec 32) : stA r c n = stA r' c' n' ↔ (∀ i, i < 176 → r i = r' i) ∧ (∀ i, i < 16 → c i = c' i) ∧ n = n' := by
  constructor
  · intro h
    have h1 := congrArg (List.take 176) h
    have h2 := congrArg (fun l => (List.drop 176 l).take 16) h
    have h3 := congrArg (fun l : List AV => l[192]?) h
    simp only [stA_rounds, stA_counter, stA_number, vec8_inj, Option.some.injEq, AV.int.injEq, true_and, bv_inj] at h1 h2 h3
    exact ⟨h1, h2, h3⟩
  · rintro ⟨h1, h2, rfl⟩
    unfold stA
    rw [vec8_ext h1, vec8_ext h2]
theorem zero_st : vec8 192 (fun _ => 0#8) ++ [AV.int .u32 0] = stA (fun _ => 0#8) (fun _ => 0#8) 0#32 := by
  unfold stA
  rw [← List.append_assoc]
  congr 1
/-- A block with this number behind its first twelve bytes. -/
def cn (c : Bl) (n : BitVec 32) : Bl := fun i => if i < 12 then c i else BitVec.ofNat 8 (n.toNat / 256 ^ (15 - i))
theorem cn_cn (c : Bl) (n m : BitVec 32) : cn (cn c n) m = cn c m := by
  funext i; unfold cn; by_cases h : i < 12 <;> simp [h]
/-- A number's bytes. -/
def nb (n : BitVec 32) : Bl := fun i => BitVec.ofNat 8 (n.toNat / 256 ^ (3 - i))
theorem nb_4 (n : BitVec 32) : [AV.int .u8 (bv ((n >>> 24).setWidth 8)), AV.int .u8 (bv ((n >>> 16).setWidth 8)), AV.int .u8 (bv ((n >>> 8).setWidth 8)), AV.int .u8 (bv (n.setWidth 8))] = vec8 4 (nb n) := by
  rw [vec8_4]
  have e : ∀ k, (n >>> k).setWidth 8 = BitVec.ofNat 8 (n.toNat / 2 ^ k) := fun k => by
    apply BitVec.eq_of_toNat_eq
    simp [Nat.shiftRight_eq_div_pow]
  have e0 : n.setWidth 8 = BitVec.ofNat 8 (n.toNat / 256 ^ 0) := by
    apply BitVec.eq_of_toNat_eq; simp
  rw [e, e, e, e0]
  rfl
theorem stA_put_4 (r c : Bl) (n m : BitVec 32) : splice (stA r c n) 188 (vec8 4 (nb m)) = stA r (cn c m) n := by
  rw [show 188 = 176 + 12 from rfl, stA_put _ _ _ _ _ _ (by decide)]
  rw [stA_inj]
  refine ⟨fun _ _ => rfl, fun i hi => ?_, rfl⟩
  unfold cn nb
  by_cases h : i < 12
  · rw [if_neg (by omega), if_pos h]
  · rw [if_pos (by omega), if_neg h, show 3 - (i - 12) = 15 - i by omega]
/-- The block of the counter behind k calls. -/
def cs (c : Bl) (n : BitVec 32) : Nat → Bl
  | 0 => c
  | k + 1 => cn c (n + BitVec.ofNat 32 k)
theorem cn_cs (c : Bl) (n m : BitVec 32) (k : Nat) : cn (cs c n k) m = cn c m := by
  cases k with
  | zero => rfl
  | succ k => exact cn_cn _ _ _
/-- The key stream. -/
def pR (r c : Bl) (n : BitVec 32) (j : Nat) : BitVec 8 := sel r (cn c (n + BitVec.ofNat 32 (j / 16))) (j % 16)
def strR (r c : Bl) (n : BitVec 32) (l : List UInt8) : List UInt8 := lst l.length fun j => tx l j ^^^ pR r c n j
@[simp] theorem strR_len (r c : Bl) (n : BitVec 32) (l : List UInt8) : (strR r c n l).length = l.length := by simp [strR]
theorem cn_ag {c c' : Bl} (h : ∀ i, i < 16 → c i = c' i) (n : BitVec 32) : Ag (cn c n) (cn c' n) := fun i hi => by
  unfold cn; rw [h i hi]
theorem selr_ag {r r' b b' : Bl} (h : ∀ i, i < 176 → r i = r' i) (hb : Ag b b') : Ag (sel r b) (sel r' b') := sel_ag (rk_ag h) hb
theorem strR_ag {r r' c c' : Bl} (h : ∀ i, i < 176 → r i = r' i) (hc : ∀ i, i < 16 → c i = c' i) : strR r c = strR r' c' := by
  funext n l
  unfold strR
  rw [lst_inj]
  intro j _
  unfold pR
  rw [selr_ag h (cn_ag hc _) _ (Nat.mod_lt _ (by decide))]
/-- An iv's block. -/
def c0 (iv : List UInt8) : Bl := fun i => if i < 12 then tx iv i else 0#8
theorem cn_c0 (iv : List UInt8) (n : BitVec 32) : cn (c0 iv) n = ctr iv n := by
  funext i; unfold cn c0 ctr; by_cases h : i < 12 <;> simp [h]
theorem strR_c0 (f : Bl) (iv : List UInt8) (n : BitVec 32) (l : List UInt8) : strR (ks f) (c0 iv) n l = strm f iv n l := by
  unfold strR strm pR pd
  simp only [cn_c0]
def tagR (r c : Bl) (ad s : List UInt8) : List UInt8 := lst 16 (xo (blk (sumT (pol (sel r fun _ => 0#8)) ad s)) (sel r (cn c 1#32)))
theorem tagR_c0 (f : Bl) (iv ad s : List UInt8) : tagR (ks f) (c0 iv) ad s = tag f iv ad s := by
  unfold tagR tag tagB hsh
  rw [cn_c0]
theorem tagR_ag {r r' c c' : Bl} (h : ∀ i, i < 176 → r i = r' i) (hc : ∀ i, i < 16 → c i = c' i) : tagR r c = tagR r' c' := by
  funext ad s
  unfold tagR
  rw [lst_inj]
  intro j hj
  unfold xo
  rw [selr_ag h (cn_ag hc _) j hj, pol_ext (selr_ag h (Ag.refl _))]
/-- What a call begins with. -/
def bg (f : Bl) (iv : List UInt8) : List AV := if iv.length = 12 then stA (ks f) (c0 iv) 0#32 else stA (fun _ => 0#8) (fun _ => 0#8) 0#32
theorem put_iv (r : Bl) (iv : List UInt8) (h : iv.length = 12) : splice (stA r (fun _ => 0#8) 0#32) 176 ((bytesAV iv).take 12) = stA r (c0 iv) 0#32 := by
  rw [List.take_of_length_le (by simp [h])]
  have := stA_put r (fun _ => 0#8) (tx iv) 0#32 0 12 (by decide)
  rw [bytes_tx, h, show 176 = 176 + 0 from rfl, this, stA_inj]
  refine ⟨fun _ _ => rfl, fun i hi => ?_, rfl⟩
  unfold c0
  by_cases hi : i < 12
  · rw [if_pos (by omega), if_pos hi]; rfl
  · rw [if_neg (by omega), if_neg hi]
/-- As far as k, by blocks. -/
theorem upto_blk (L k m : Nat) (g f : Bl) (hm : m = min 16 (L - 16 * k)) (h : 16 * k < L) : splice (vec8 L (upto (16 * k) g f)) (16 * k) (vec8 m fun i => g (16 * k + i)) = vec8 L (upto (16 * (k + 1)) g f) := by
  rw [vec8_splice _ _ _ _ _ (by omega)]
  refine vec8_ext fun i hi => ?_
  unfold upto
  by_cases h1 : 16 * k ≤ i ∧ i < 16 * k + m
  · rw [if_pos h1, if_pos (by omega), show 16 * k + (i - 16 * k) = i by omega]
  · rw [if_neg h1]
    by_cases h2 : i < 16 * k
    · rw [if_pos h2, if_pos (by omega)]
    · rw [if_neg h2, if_neg (by omega)]
end Go.Proofs.Ytlihfdbfcklkmaa.Pad.Gc
