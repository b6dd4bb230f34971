/- Streams of secret bytes, and tags. No program is in here. -/
import Derived.Test.YtlihfdbfcklkmaaKM
import Derived.Test.YtlihfdbfcklkmaaHW
import Derived.Test.YtlihfdbfcklkmaaE24
set_option linter.unusedVariables false
set_option linter.unusedSimpArgs false
namespace Go.Proofs.Ytlihfdbfcklkmaa.Pad.Gc
open Go.Proofs.Ytlihfdbfcklkmaa.Pad.Ci Go.Proofs.Ytlihfdbfcklkmaa.Pad.Gh
theorem tx_ext {a b : List UInt8} (hl : a.length = b.length) (h : ∀ j, j < a.length → tx a j = tx b j) : a = b := by
  apply List.ext_getElem hl
  intro j h1 h2
  have := h j h1
  unfold tx at this
  rw [List.getD_eq_getElem?_getD, List.getD_eq_getElem?_getD, List.getElem?_eq_getElem h1, List.getElem?_eq_getElem h2] at this
  exact UInt8.toBitVec_inj.1 this
/-- Bytes, of which the j-th is f j. -/
def lst (n : Nat) (f : Nat → BitVec 8) : List UInt8 := (List.range n).map fun j => UInt8.ofBitVec (f j)
@[simp] theorem lst_len (n : Nat) (f : Nat → BitVec 8) : (lst n f).length = n := by simp [lst]
theorem lst_at (n : Nat) (f : Nat → BitVec 8) (j : Nat) (h : j < n) : tx (lst n f) j = f j := by
  unfold tx lst
  rw [List.getD_eq_getElem?_getD, List.getElem?_map, List.getElem?_range h]; rfl
theorem lst_bytes (n : Nat) (f : Nat → BitVec 8) : bytesAV (lst n f) = vec8 n f := by
  rw [bytes_vec, lst_len]
  exact vec8_ext fun j hj => lst_at n f j hj
theorem lst_map (n : Nat) (f : Nat → BitVec 8) : (vec8 n f).map AV.byte = lst n f := by rw [← lst_bytes, bytesAV_back]
theorem bytes_tx (l : List UInt8) : bytesAV l = vec8 l.length (tx l) := bytes_vec l
theorem lst_inj (n : Nat) (f g : Nat → BitVec 8) : lst n f = lst n g ↔ ∀ j, j < n → f j = g j := by
  constructor
  · intro h j hj
    rw [← lst_at n f j hj, h, lst_at n g j hj]
  · intro h
    exact tx_ext (by simp) fun j hj => by
      rw [lst_len] at hj
      rw [lst_at n f j hj, lst_at n g j hj, h j hj]
/-- The counter block. -/
def ctr (iv : List UInt8) (n : BitVec 32) : Bl := fun i => if i < 12 then tx iv i else BitVec.ofNat 8 (n.toNat / 256 ^ (15 - i))
/-- The key stream. -/
def pd (key : Bl) (iv : List UInt8) (n : BitVec 32) (j : Nat) : BitVec 8 := sel (ks key) (ctr iv (n + BitVec.ofNat 32 (j / 16))) (j % 16)
def strm (key : Bl) (iv : List UInt8) (n : BitVec 32) (l : List UInt8) : List UInt8 := lst l.length fun j => tx l j ^^^ pd key iv n j
@[simp] theorem strm_len (key : Bl) (iv : List UInt8) (n : BitVec 32) (l : List UInt8) : (strm key iv n l).length = l.length := by simp [strm]
theorem strm_at (key : Bl) (iv : List UInt8) (n : BitVec 32) (l : List UInt8) (j : Nat) (h : j < l.length) : tx (strm key iv n l) j = tx l j ^^^ pd key iv n j := lst_at _ _ j h
theorem strm_strm (key : Bl) (iv : List UInt8) (n : BitVec 32) (l : List UInt8) : strm key iv n (strm key iv n l) = l :=
  tx_ext (by simp) fun j hj => by
    simp only [strm_len] at hj
    rw [strm_at _ _ _ _ j (by simpa using hj), strm_at _ _ _ _ j hj, BitVec.xor_assoc, BitVec.xor_self, BitVec.xor_zero]
theorem strm_nil (key : Bl) (iv : List UInt8) (n : BitVec 32) : strm key iv n [] = [] := rfl
theorem pd_add (key : Bl) (iv : List UInt8) (n : BitVec 32) (c j : Nat) : pd key iv (n + BitVec.ofNat 32 c) j = pd key iv n (16 * c + j) := by
  unfold pd
  rw [show (16 * c + j) % 16 = j % 16 by omega, show (16 * c + j) / 16 = c + j / 16 by omega, BitVec.add_assoc, BitVec.ofNat_add]
theorem tx_take (l : List UInt8) (k j : Nat) (h : j < k) : tx (l.take k) j = tx l j := by
  unfold tx
  rw [List.getD_eq_getElem?_getD, List.getD_eq_getElem?_getD, List.getElem?_take, if_pos h]
theorem tx_drop (l : List UInt8) (k j : Nat) : tx (l.drop k) j = tx l (k + j) := by
  unfold tx
  rw [List.getD_eq_getElem?_getD, List.getD_eq_getElem?_getD, List.getElem?_drop]
theorem tx_app_l (a b : List UInt8) (j : Nat) (h : j < a.length) : tx (a ++ b) j = tx a j := by unfold tx; rw [getD_l _ _ _ h]
theorem tx_app_r (a b : List UInt8) (j : Nat) (h : a.length ≤ j) : tx (a ++ b) j = tx b (j - a.length) := by unfold tx; rw [getD_r _ _ _ h]
theorem strm_parts (key : Bl) (iv : List UInt8) (n : BitVec 32) (c : Nat) (l : List UInt8) (h : 16 * c ≤ l.length) :
    strm key iv n (l.take (16 * c)) ++ strm key iv (n + BitVec.ofNat 32 c) (l.drop (16 * c)) = strm key iv n l := by
  have hl : (l.take (16 * c)).length = 16 * c := by rw [List.length_take]; omega
  refine tx_ext (by simp; omega) fun j hj => ?_
  rw [List.length_append, strm_len, strm_len, hl, List.length_drop] at hj
  by_cases h1 : j < 16 * c
  · rw [tx_app_l _ _ _ (by rw [strm_len, hl]; exact h1), strm_at _ _ _ _ j (by rw [hl]; exact h1), strm_at _ _ _ _ j (by omega), tx_take _ _ _ h1]
  · rw [tx_app_r _ _ _ (by rw [strm_len, hl]; omega), strm_len, hl, strm_at _ _ _ _ _ (by rw [List.length_drop]; omega), strm_at _ _ _ _ j (by omega), tx_drop, pd_add, show 16 * c + (j - 16 * c) = j by omega]
/-- The block that the hash multiplies by. -/
def hsh (key : Bl) : Gh.W := pol (sel (ks key) fun _ => 0#8)
def tagB (key : Bl) (iv ad s : List UInt8) : Bl := xo (blk (sumT (hsh key) ad s)) (sel (ks key) (ctr iv 1#32))
def tag (key : Bl) (iv ad s : List UInt8) : List UInt8 := lst 16 (tagB key iv ad s)
@[simp] theorem tag_len (key : Bl) (iv ad s : List UInt8) : (tag key iv ad s).length = 16 := by simp [tag]
theorem tag_inj (key : Bl) (iv ad s ad' s' : List UInt8) : tag key iv ad s = tag key iv ad' s' ↔ sumT (hsh key) ad s = sumT (hsh key) ad' s' := by
  unfold tag
  rw [lst_inj, ← blk_inj]
  constructor
  · intro h j hj
    have := congrArg (· ^^^ sel (ks key) (ctr iv 1#32) j) (h j hj)
    unfold tagB xo at this
    simpa only [BitVec.xor_assoc, BitVec.xor_self, BitVec.xor_zero] using this
  · intro h j hj
    unfold tagB xo
    rw [h j hj]
def sld (key : Bl) (iv ad t : List UInt8) : List UInt8 := strm key iv 2#32 t ++ tag key iv ad (strm key iv 2#32 t)
theorem sld_len (key : Bl) (iv ad t : List UInt8) : (sld key iv ad t).length = t.length + 16 := by simp [sld]
/-- The bytes ahead of the tag, and the tag. -/
def body (s : List UInt8) : List UInt8 := s.take (s.length - 16)
def foot (s : List UInt8) : List UInt8 := s.drop (s.length - 16)
theorem body_sld (key : Bl) (iv ad t : List UInt8) : body (sld key iv ad t) = strm key iv 2#32 t := by
  unfold body
  rw [sld_len, Nat.add_sub_cancel]
  unfold sld
  exact List.take_left' (strm_len ..)
theorem foot_sld (key : Bl) (iv ad t : List UInt8) : foot (sld key iv ad t) = tag key iv ad (strm key iv 2#32 t) := by
  unfold foot
  rw [sld_len, Nat.add_sub_cancel]
  unfold sld
  exact List.drop_left' (strm_len ..)
/-- What opening tells. -/
def opE (key : Bl) (iv ad s : List UInt8) : Int := if iv.length = 12 then (if s.length < 16 then 3 else if tag key iv ad (body s) = foot s then 0 else 11) else 2
def opT (key : Bl) (iv ad s : List UInt8) : List UInt8 := if iv.length = 12 then (if s.length < 16 then [] else if tag key iv ad (body s) = foot s then strm key iv 2#32 (body s) else []) else []
theorem opE_sld (key : Bl) (iv ad t : List UInt8) (h : iv.length = 12) : opE key iv ad (sld key iv ad t) = 0 := by
  unfold opE
  rw [if_pos h, if_neg (by rw [sld_len]; omega), body_sld, foot_sld, if_pos rfl]
theorem opT_sld (key : Bl) (iv ad t : List UInt8) (h : iv.length = 12) : opT key iv ad (sld key iv ad t) = t := by
  unfold opT
  rw [if_pos h, if_neg (by rw [sld_len]; omega), body_sld, foot_sld, if_pos rfl, strm_strm]
/-- Is it of that key? -/
def fits (key : Bl) (iv ad s : List UInt8) : Prop := tag key iv ad (body s) = foot s
/-- **With a byte changed it is not.** -/
theorem not_fits (key : Bl) (hh : hsh key ≠ 0#128) (iv ad t : List UInt8) (k : Nat) (x : UInt8) (hk : k < (ad ++ sld key iv ad t).length) (hx : (ad ++ sld key iv ad t).getD k 0 ≠ x) :
    ¬ fits key iv (((ad ++ sld key iv ad t).set k x).take ad.length) (((ad ++ sld key iv ad t).set k x).drop ad.length) := by
  obtain ⟨c, hc⟩ : ∃ c, c = strm key iv 2#32 t := ⟨_, rfl⟩
  have hs : sld key iv ad t = c ++ tag key iv ad c := by rw [hc]; rfl
  rw [hs] at hk hx ⊢
  rw [← List.append_assoc] at hk hx ⊢
  by_cases h1 : k < (ad ++ c).length
  · have hx' : (ad ++ c).getD k 0 ≠ x := by rw [getD_l _ _ _ h1] at hx; exact hx
    have ne := sumT_ne hh ad c k x h1 hx'
    rw [List.set_append_left _ _ h1]
    have hl : ((ad ++ c).set k x).length = ad.length + c.length := by rw [List.length_set, List.length_append]
    rw [List.take_append_of_le_length (by omega), List.drop_append_of_le_length (by omega)]
    unfold fits
    have hd : (((ad ++ c).set k x).drop ad.length).length = c.length := by rw [List.length_drop, hl]; omega
    have hb : body (((ad ++ c).set k x).drop ad.length ++ tag key iv ad c) = ((ad ++ c).set k x).drop ad.length := by
      unfold body
      rw [List.length_append, tag_len, Nat.add_sub_cancel]
      exact List.take_left' rfl
    have hf : foot (((ad ++ c).set k x).drop ad.length ++ tag key iv ad c) = tag key iv ad c := by
      unfold foot
      rw [List.length_append, tag_len, Nat.add_sub_cancel]
      exact List.drop_left' rfl
    rw [hb, hf, tag_inj]
    exact ne
  · rw [List.set_append_right _ _ (by omega), List.append_assoc, List.take_left' rfl, List.drop_left' rfl]
    rw [List.length_append] at hk h1
    rw [List.length_append, tag_len] at hk
    unfold fits
    have hb : body (c ++ (tag key iv ad c).set (k - (ad ++ c).length) x) = c := by
      unfold body
      rw [List.length_append, List.length_set, tag_len, Nat.add_sub_cancel]
      exact List.take_left' rfl
    have hf : foot (c ++ (tag key iv ad c).set (k - (ad ++ c).length) x) = (tag key iv ad c).set (k - (ad ++ c).length) x := by
      unfold foot
      rw [List.length_append, List.length_set, tag_len, Nat.add_sub_cancel]
      exact List.drop_left' rfl
    rw [hb, hf]
    rw [getD_r _ _ _ (by rw [List.length_append]; omega)] at hx
    intro e
    apply hx
    have hlt : k - (ad ++ c).length < (tag key iv ad c).length := by rw [tag_len, List.length_append]; omega
    rw [e, List.getD_eq_getElem?_getD, List.getElem?_set_self hlt]
    rfl
/-! A byte that is another one -/
/-- What is added to a byte. -/
def dlt (n : BitVec 8) : BitVec 8 := BitVec.ofNat 8 (1 + n.toNat % 255)
theorem dlt_ne : ∀ n : BitVec 8, dlt n ≠ 0#8 := by decide +kernel
theorem dlt_wrap (n : BitVec 8) : IntKind.u8.wrap (1 + (bv n).tmod 255) = bv (dlt n) := by
  rw [show (bv n).tmod 255 = ((n.toNat % 255 : Nat) : Int) from tmod_nat n.toNat 255, show (1 : Int) + ((n.toNat % 255 : Nat) : Int) = ((1 + n.toNat % 255 : Nat) : Int) by omega, bv_wrap8]; rfl
def chg (x : UInt8) (n : BitVec 8) : UInt8 := UInt8.ofBitVec (x.toBitVec ^^^ dlt n)
theorem chg_ne (x : UInt8) (n : BitVec 8) : x ≠ chg x n := by
  intro h
  have h1 : x.toBitVec = x.toBitVec ^^^ dlt n := congrArg UInt8.toBitVec h
  have := congrArg (x.toBitVec ^^^ ·) h1
  simp only [BitVec.xor_self, ← BitVec.xor_assoc, BitVec.zero_xor] at this
  exact dlt_ne n this.symm
theorem chg_xor (x : UInt8) (n : BitVec 8) : bits .xor .u8 ((x.toNat : Nat) : Int) (bv (dlt n)) = (((chg x n).toNat : Nat) : Int) := by
  rw [bv_byte, bv_xor8]; rfl
end Go.Proofs.Ytlihfdbfcklkmaa.Pad.Gc
