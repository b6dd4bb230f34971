/- Known answers of the cipher, by tables; the zero key. No program is in here. -/
import Derived.Test.YtlihfdbfcklkmaaWM
set_option linter.unusedVariables false
set_option linter.unusedSimpArgs false
namespace Go.Proofs.Ytlihfdbfcklkmaa.Pad.Ci
open Go.Proofs.Ytlihfdbfcklkmaa.Pad.Gf
theorem ks_table (K : List Nat) (h : ∀ m, m < 176 → 16 ≤ m → (if m % 16 < 4 then tb K (m - 16) ^^^ (box (tb K (m - 4 - m % 4 + (m % 4 + 1) % 4)) ^^^ (if m % 16 = 0 then cst (m / 16 - 1) else 0#8)) else tb K (m - 16) ^^^ tb K (m - 4)) = tb K m) : ∀ m, m < 176 → ks (tb K) m = tb K m := by
  intro m
  induction m using Nat.strongRecOn with
  | _ m ih =>
    intro hm
    rw [ks]
    by_cases h0 : m < 16
    · rw [if_pos h0]
    · rw [if_neg h0]
      by_cases h1 : m % 16 < 4
      · rw [if_pos h1, ih (m - 16) (by omega) (by omega), ih (m - 4 - m % 4 + (m % 4 + 1) % 4) (by omega) (by omega)]
        have := h m hm (by omega)
        rwa [if_pos h1] at this
      · rw [if_neg h1, ih (m - 16) (by omega) (by omega), ih (m - 4) (by omega) (by omega)]
        have := h m hm (by omega)
        rwa [if_neg h1] at this
theorem sel_table (K : List Nat) (hK : ∀ m, m < 176 → ks (tb K) m = tb K m) (B : List Nat) (E : Nat → List Nat) (h0 : ∀ i, i < 16 → xo (tb B) (rk (tb K) 0) i = tb (E 0) i)
    (hs : ∀ k, k < 10 → ∀ i, i < 16 → xo (if k < 9 then mxs false (turn (bxs false (tb (E k)))) else turn (bxs false (tb (E k)))) (rk (tb K) (k + 1)) i = tb (E (k + 1)) i) : Ag (sel (ks (tb K)) (tb B)) (tb (E 10)) := by
  have all : ∀ k, k ≤ 10 → Ag (st (tb K) (tb B) k) (tb (E k)) := by
    intro k
    induction k with
    | zero => exact fun _ => h0
    | succ k ih =>
      intro h
      refine Ag.trans ?_ (fun i hi => hs k (by omega) i hi)
      rw [st]
      refine xo_ag ?_ (Ag.refl _)
      have ih := turn_ag (bxs_ag false (ih (by omega)))
      split
      · exact mxs_ag _ ih
      · exact ih
  exact (sel_ag (rk_ag hK) (Ag.refl _)).trans (all 10 (by decide))
def zK : List Nat := [0, 0, 0, 0, 0, 0, 0, 0, 0, 0, 0, 0, 0, 0, 0, 0, 98, 99, 99, 99, 98, 99, 99, 99, 98, 99, 99, 99, 98, 99, 99, 99, 155, 152, 152, 201, 249, 251, 251, 170, 155, 152, 152, 201, 249, 251, 251, 170, 144, 151, 52, 80, 105, 108, 207, 250, 242, 244, 87, 51, 11, 15, 172, 153, 238, 6, 218, 123, 135, 106, 21, 129, 117, 158, 66, 178, 126, 145, 238, 43, 127, 46, 43, 136, 248, 68, 62, 9, 141, 218, 124, 187, 243, 75, 146, 144, 236, 97, 75, 133, 20, 37, 117, 140, 153, 255, 9, 55, 106, 180, 155, 167, 33, 117, 23, 135, 53, 80, 98, 11, 172, 175, 107, 60, 198, 27, 240, 155, 14, 249, 3, 51, 59, 169, 97, 56, 151, 6, 10, 4, 81, 29, 250, 159, 177, 212, 216, 226, 138, 125, 185, 218, 29, 123, 179, 222, 76, 102, 73, 65, 180, 239, 91, 203, 62, 146, 226, 17, 35, 233, 81, 207, 111, 143, 24, 142]
theorem zK_ok : ∀ m, m < 176 → ks (tb zK) m = tb zK m := ks_table zK (by decide +kernel)
def z0B : List Nat := [0, 0, 0, 0, 0, 0, 0, 0, 0, 0, 0, 0, 0, 0, 0, 0]
def z0 : Nat → List Nat
  | 0 => [0, 0, 0, 0, 0, 0, 0, 0, 0, 0, 0, 0, 0, 0, 0, 0]
  | 1 => [1, 0, 0, 0, 1, 0, 0, 0, 1, 0, 0, 0, 1, 0, 0, 0]
  | 2 => [198, 228, 228, 139, 164, 135, 135, 232, 198, 228, 228, 139, 164, 135, 135, 232]
  | 3 => [40, 45, 243, 196, 106, 243, 134, 37, 74, 78, 144, 167, 8, 144, 229, 70]
  | 4 => [171, 210, 205, 254, 55, 90, 181, 73, 80, 160, 175, 192, 117, 154, 106, 95]
  | 5 => [212, 111, 79, 108, 85, 184, 150, 51, 126, 5, 187, 61, 121, 121, 222, 35]
  | 6 => [4, 242, 202, 151, 7, 120, 40, 69, 226, 47, 1, 150, 73, 197, 215, 16]
  | 7 => [183, 170, 228, 197, 29, 37, 45, 79, 108, 146, 15, 129, 148, 229, 129, 80]
  | 8 => [35, 231, 140, 60, 19, 33, 99, 219, 170, 192, 198, 87, 46, 3, 203, 149]
  | 9 => [127, 254, 14, 149, 81, 165, 102, 53, 14, 52, 124, 71, 41, 41, 236, 203]
  | _ => [102, 233, 75, 212, 239, 138, 44, 59, 136, 76, 250, 89, 202, 52, 43, 46]
theorem z0_ok : Ag (sel (ks (tb zK)) (tb z0B)) (tb [102, 233, 75, 212, 239, 138, 44, 59, 136, 76, 250, 89, 202, 52, 43, 46]) := sel_table zK zK_ok z0B z0 (by decide +kernel) (by decide +kernel)
def z1B : List Nat := [0, 0, 0, 0, 0, 0, 0, 0, 0, 0, 0, 0, 0, 0, 0, 1]
def z1 : Nat → List Nat
  | 0 => [0, 0, 0, 0, 0, 0, 0, 0, 0, 0, 0, 0, 0, 0, 0, 1]
  | 1 => [30, 31, 33, 62, 1, 0, 0, 0, 1, 0, 0, 0, 1, 0, 0, 0]
  | 2 => [218, 234, 234, 153, 117, 86, 239, 81, 88, 93, 195, 21, 90, 218, 36, 75]
  | 3 => [107, 120, 64, 75, 68, 221, 91, 251, 137, 115, 23, 228, 120, 135, 219, 170]
  | 4 => [20, 71, 112, 136, 49, 23, 38, 231, 31, 3, 241, 64, 146, 108, 39, 163]
  | 5 => [48, 221, 102, 216, 232, 254, 86, 127, 35, 221, 233, 210, 104, 84, 147, 4]
  | 6 => [222, 216, 197, 211, 220, 57, 47, 229, 84, 30, 4, 241, 188, 21, 162, 105]
  | 7 => [38, 184, 247, 169, 232, 26, 72, 30, 120, 21, 53, 10, 27, 34, 38, 25]
  | 8 => [68, 36, 6, 182, 217, 81, 56, 157, 64, 77, 99, 196, 149, 251, 52, 133]
  | 9 => [131, 247, 93, 208, 136, 243, 141, 226, 47, 131, 137, 25, 89, 53, 127, 54]
  | _ => [88, 226, 252, 206, 250, 126, 48, 97, 54, 127, 29, 87, 164, 231, 69, 90]
theorem z1_ok : Ag (sel (ks (tb zK)) (tb z1B)) (tb [88, 226, 252, 206, 250, 126, 48, 97, 54, 127, 29, 87, 164, 231, 69, 90]) := sel_table zK zK_ok z1B z1 (by decide +kernel) (by decide +kernel)
end Go.Proofs.Ytlihfdbfcklkmaa.Pad.Ci
namespace Go.Proofs.Ytlihfdbfcklkmaa.Pad.Gc
open Go.Proofs.Ytlihfdbfcklkmaa.Pad.Ci Go.Proofs.Ytlihfdbfcklkmaa.Pad.Gh
/-- The zero key, an iv of zeros. -/
def zk : Bl := fun _ => 0#8
def iv0 : List UInt8 := [0, 0, 0, 0, 0, 0, 0, 0, 0, 0, 0, 0]
theorem zk_tb : ∀ i, i < 16 → zk i = tb zK i := by decide
theorem ks_z : ks zk = ks (tb zK) := funext fun m => ks_ag zk_tb m
def zH : List Nat := [102, 233, 75, 212, 239, 138, 44, 59, 136, 76, 250, 89, 202, 52, 43, 46]
theorem hsh_z : hsh zk = pol (tb zH) := by
  unfold hsh
  rw [ks_z]
  refine pol_ext fun i hi => ?_
  exact ((sel_ag (fun n _ => Ag.refl _) (fun i hi => by revert i; decide)).trans z0_ok) i hi
theorem hsh_z0 : blk (hsh zk) 0 = 102#8 := by rw [hsh_z, blk_pol _ _ (by decide)]; decide
theorem sum_nil (h : Gh.W) : sumT h [] [] = 0#128 := by
  have : lens 0 0 = 0#128 := by decide +kernel
  show mul (0#128 ^^^ lens 0 0) h = _
  rw [this, BitVec.xor_self, zero_mul]
theorem zs : sld zk iv0 [] [] = tag zk iv0 [] [] := rfl
theorem zs_0 : ((sld zk iv0 [] []).getD 0 0).toBitVec = 88#8 := by
  rw [zs]
  have := lst_at 16 (tagB zk iv0 [] []) 0 (by decide)
  unfold tx at this
  unfold tag
  rw [this]
  unfold tagB xo
  rw [sum_nil, blk_zero, ks_z, BitVec.zero_xor]
  exact ((sel_ag (fun n _ => Ag.refl _) (fun i hi => by revert i; decide)).trans z1_ok) 0 (by decide)
theorem zs_x : opE zk iv0 [120] (sld zk iv0 [] []) = 11 := by
  unfold opE
  rw [if_pos (by decide), if_neg (by rw [sld_len]; decide), body_sld, foot_sld, if_neg]
  rw [tag_inj, strm_nil, sum_nil, hsh_z]
  decide +kernel
end Go.Proofs.Ytlihfdbfcklkmaa.Pad.Gc
