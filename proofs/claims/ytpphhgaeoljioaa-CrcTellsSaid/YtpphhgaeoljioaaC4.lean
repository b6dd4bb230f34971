/- A byte that is another one is told. -/
import Derived.Test.YtpphhgaeoljioaaC3
namespace Go.Proofs.Ytpphhgaeoljioaa
open Go.Proofs.Ytpphhgaeoljioaa.Pad Go.Proofs.Ytpphhgaeoljioaa.Pad.Crc
theorem bt_lt (x : B) (k : Nat) : 0 ≤ bt x k ∧ bt x k < 256 := by unfold bt; omega
theorem ofNat_inj {a b : Int} (ha : 0 ≤ a ∧ a < 256) (hb : 0 ≤ b ∧ b < 256) (h : UInt8.ofNat a.toNat = UInt8.ofNat b.toNat) : a = b := by
  have := congrArg UInt8.toNat h
  rw [UInt8.toNat_ofNat', UInt8.toNat_ofNat'] at this
  omega
theorem sumB_inj {x y : B} (h : sumB x = sumB y) : x = y := by
  simp only [sumB, List.cons.injEq, and_true] at h
  obtain ⟨h3, h2, h1, h0⟩ := h
  have e3 := ofNat_inj (bt_lt x 3) (bt_lt y 3) h3
  have e2 := ofNat_inj (bt_lt x 2) (bt_lt y 2) h2
  have e1 := ofNat_inj (bt_lt x 1) (bt_lt y 1) h1
  have e0 := ofNat_inj (bt_lt x 0) (bt_lt y 0) h0
  have a1 := rg_lo x; have a2 := rg_hi x; have b1 := rg_lo y; have b2 := rg_hi y
  rw [← rg_inj]
  unfold bt at e3 e2 e1 e0
  simp only [Int.reducePow] at e3 e2 e1 e0
  omega
theorem sum_change (s : List UInt8) (i : Nat) (h : i < s.length) (y : UInt8) (hy : y ≠ s[i]) : sum (s.set i y) ≠ sum s := by
  intro e
  have e1 := not_inj e
  have e2 : s = s.take i ++ s[i] :: s.drop (i + 1) := by rw [List.getElem_cons_drop, List.take_append_drop]
  have e3 : s.set i y = s.take i ++ y :: s.drop (i + 1) := List.set_eq_take_append_cons_drop.trans (by rw [if_pos h])
  rw [e3] at e1
  conv at e1 => rhs; rw [e2]
  exact hy (feed_change _ _ _ _ _ e1)
theorem open_change (s : List UInt8) (i : Nat) (h : i < (sealB s).length) (y : UInt8) (hy : y ≠ (sealB s)[i]) : openB ((sealB s).set i y) = ([], 10) := by
  have hl := sealB_len s
  have hl' : ((sealB s).set i y).length = s.length + 4 := by simp
  unfold openB
  rw [if_neg (by omega), if_neg]
  rw [split4, hl', Nat.add_sub_cancel]
  by_cases hi : i < s.length
  · have e1 : ((sealB s).set i y).take s.length = s.set i y := by
      rw [List.take_set]; congr 1; simp [sealB]
    have e2 : ((sealB s).set i y).drop s.length = sumB (sum s) := by
      rw [List.drop_set_of_lt hi]; simp [sealB]
    rw [e1, e2]
    intro e
    refine sum_change s i hi y ?_ (sumB_inj e)
    intro e3
    apply hy
    rw [e3]
    simp [sealB, List.getElem_append_left hi]
  · have e1 : ((sealB s).set i y).take s.length = s := by
      rw [List.take_set_of_le (by omega)]; simp [sealB]
    have e2 : ((sealB s).set i y).drop s.length = (sumB (sum s)).set (i - s.length) y := by
      rw [List.drop_set, if_neg hi]; congr 1; simp [sealB]
    rw [e1, e2]
    intro e
    apply hy
    have hlt : i - s.length < 4 := by omega
    have : (sumB (sum s))[i - s.length]? = some y := by
      rw [e, List.getElem?_set_self (by rw [List.length_set] at *; simp; omega)]
    have h2 : (sealB s)[i]? = some y := by
      rw [sealB, List.getElem?_append_right (by omega), this]
    rw [List.getElem?_eq_getElem h] at h2
    exact (Option.some.inj h2).symm
def dB (b : Int) : UInt8 := UInt8.ofNat (1 + b % 255).toNat
theorem dB_eq (b : Int) (h : inK .u8 b) : IntKind.u8.wrap (1 + b.tmod 255) = ((dB b).toNat : Int) := by
  simp only [inK] at h
  rw [u8_wrap, Int.tmod_eq_emod_of_nonneg h.1, dB, UInt8.toNat_ofNat']
  omega
theorem dB_ne (b : Int) (x : UInt8) : x ^^^ dB b ≠ x := by
  intro h
  have h1 : dB b = 0 := by
    have := congrArg (x ^^^ ·) h
    simpa [← UInt8.xor_assoc] using this
  have h2 := congrArg UInt8.toNat h1
  rw [dB, UInt8.toNat_ofNat'] at h2
  have : (0 : UInt8).toNat = 0 := rfl
  omega
theorem u8x (a b : UInt8) : bits .xor .u8 (a.toNat : Int) (b.toNat : Int) = ((a ^^^ b).toNat : Int) := by
  rw [u8_xor_nat _ _ a.toNat_lt b.toNat_lt, UInt8.toNat_xor]
theorem tells_pf (s : List UInt8) (p q : Int) (hp : inK .u16 p) (hq : inK .u8 q) : PFx Try.prog 6 [.str s, .int .u16 p, .int .u8 q] (.bool true) := by
  refine PFx_of_W (rc := rc6) (rs := rs6) Try.func6 rfl T8_ok hm (by kernel_rfl) (by kernel_rfl) (by simp [Try.ntmps6]) ?_
  by_cases h1 : s.length ≤ 300
  · have h1' : ¬ (300 : Int) < s.length := by omega
    have h1'' : s.length ≤ 1000000 := by omega
    have e1 := T17_eq (sealB s) (by simp; omega)
    rw [openB_sealB] at e1
    simp only [inK] at hp
    have hm : p.tmod ((s.length : Int) + 4) = p % ((s.length : Int) + 4) := Int.tmod_eq_emod_of_nonneg hp.1
    have hm1 : 0 ≤ p % ((s.length : Int) + 4) := Int.emod_nonneg _ (by omega)
    have hm2 : p % ((s.length : Int) + 4) < (s.length : Int) + 4 := Int.emod_lt_of_pos _ (by omega)
    obtain ⟨i, hi⟩ : ∃ i : Nat, p % ((s.length : Int) + 4) = i := ⟨_, (Int.toNat_of_nonneg hm1).symm⟩
    have hil : i < (sealB s).length := by rw [sealB_len]; omega
    have hil2 : i < s.length + 4 := by rw [← sealB_len]; exact hil
    have e2 := T17_eq ((sealB s).set i ((sealB s)[i] ^^^ dB q)) (by simp; omega)
    rw [open_change s i hil _ (dB_ne q _)] at e2
    simp [rc6, rs6, h1', h1'', e1, hm, hi, -splice, -UInt8.toNat_xor, hil2, dB_eq q hq, u8x, bytesAV_splice, e2]



    omega
  · have h1' : (300 : Int) < s.length := by omega
    simp [rc6, rs6, h1']
end Go.Proofs.Ytpphhgaeoljioaa
