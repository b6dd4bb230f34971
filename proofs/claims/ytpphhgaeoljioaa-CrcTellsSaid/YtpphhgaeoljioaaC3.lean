/- The first three laws of crc. -/
import Derived.Test.YtpphhgaeoljioaaC2
namespace Go.Proofs.Ytpphhgaeoljioaa
open Go.Proofs.Ytpphhgaeoljioaa.Pad Go.Proofs.Ytpphhgaeoljioaa.Pad.Crc
def by1 (x : B) : UInt8 := UInt8.ofNat (bt x 1).toNat
theorem rt1b (x : B) : IntKind.u8.wrap (IntKind.u32.wrap ((rg x).tdiv 256)) = ((by1 x).toNat : Int) := by
  have h1 := rg_lo x
  rw [qt x _ (by decide), u8_wrap, by1, UInt8.toNat_ofNat']
  unfold bt
  omega
theorem skipC_nat (n : Int) (h : n ≤ 2000000) : skipC n = n.toNat := by
  unfold skipC
  rw [if_neg (by omega)]
theorem feeds_pf (x : B) (s : List UInt8) (n : Int) : PFx Try.prog 3 [.int .u32 (rg x), .str s, .int .i64 n] (.bool true) := by
  refine PFx_of_W (rc := rc3) (rs := rs3) Try.func3 rfl T8_ok hm (by kernel_rfl) (by kernel_rfl) (by simp [Try.ntmps3]) ?_
  by_cases h1 : s.length ≤ 300
  · have h1' : ¬ (300 : Int) < s.length := by omega
    have h1'' : s.length ≤ 1000000 := by omega
    by_cases h2 : n ≤ 2000
    · have h2' : ¬ (2000 : Int) < n := by omega
      have h2'' : n ≤ 1000000 := by omega
      simp [rc3, rs3, h1', h2', h1'', h2'', rt1b, skipC_nat n (by omega)]
    · have h2' : (2000 : Int) < n := by omega
      simp [rc3, rs3, h1', h2']
  · have h1' : (300 : Int) < s.length := by omega
    simp [rc3, rs3, h1']
theorem seals_pf (s : List UInt8) : PFx Try.prog 4 [.str s] (.bool true) := by
  refine PFx_of_W (rc := rc4) (rs := rs4) Try.func4 rfl T8_ok hm (by kernel_rfl) (by kernel_rfl) (by simp [Try.ntmps4]) ?_
  by_cases h1 : s.length ≤ 300
  · have h1' : ¬ (300 : Int) < s.length := by omega
    have h1'' : s.length ≤ 1000000 := by omega
    simp [rc4, rs4, h1', h1'']
  · have h1' : (300 : Int) < s.length := by omega
    simp [rc4, rs4, h1']
theorem parts_pf (a b : List UInt8) (p q : Int) (hp : inK .u16 p) (hq : inK .u16 q) : PFx Try.prog 5 [.str a, .str b, .agg [.int .u16 p, .int .u16 q]] (.bool true) := by
  refine PFx_of_W (rc := rc5) (rs := rs5) Try.func5 rfl T8_ok hm (by kernel_rfl) (by kernel_rfl) (by simp [Try.ntmps5]) ?_
  by_cases h1 : a.length ≤ 300
  · have h1' : ¬ (300 : Int) < a.length := by omega
    have h1'' : a.length ≤ 1000000 := by omega
    by_cases h2 : b.length ≤ 300
    · have h2' : ¬ (300 : Int) < b.length := by omega
      have h2'' : b.length ≤ 1000000 := by omega
      have h3 : (a ++ b).length ≤ 1000000 := by simp; omega
      have e7 : ∀ l : List UInt8, l.length ≤ 1000000 → T11 11 [.int .u32 7, .str l] = some (.int .u32 (rg (feed 7#32 l))) := fun l h => T11_eq 7#32 l h
      have ea := e7 a h1''
      have eb := e7 (a ++ b) h3
      have es := T13_eq (a ++ b) h3
      have j := join_sum a b
      simp only [inK] at hp hq
      have hpm : p.tmod 2000 = p % 2000 := Int.tmod_eq_emod_of_nonneg hp.1
      have hqm : q.tmod 2000 = q % 2000 := Int.tmod_eq_emod_of_nonneg hq.1
      have w1 : skipC (p % 2000) = (p % 2000).toNat := skipC_nat _ (by omega)
      have w2 : skipC (q % 2000) = (q % 2000).toNat := skipC_nat _ (by omega)
      have w3 : skipC (p % 2000 + q % 2000) = (p % 2000).toNat + (q % 2000).toNat := by rw [skipC_nat _ (by omega)]; omega
      have w4 : skipC b.length = b.length := by rw [skipC_nat _ (by omega)]; simp
      have w5 : skipC 0 = 0 := rfl
      have w6 : ∀ r, skipN 0 r = r := fun _ => rfl
      simp [rc5, rs5, h1', h2', h1'', h2'', ea, eb, es, j, hpm, hqm, w1, w2, w3, w4, w5, w6, feed_app, skipN_add]
      omega
    · have h2' : (300 : Int) < b.length := by omega
      simp [rc5, rs5, h1', h2']
  · have h1' : (300 : Int) < a.length := by omega
    simp [rc5, rs5, h1']
end Go.Proofs.Ytpphhgaeoljioaa
