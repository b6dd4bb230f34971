/- Boxes and columns over the field of 256 elements. No program is in here. -/
import Derived.Test.YtlihfdbfcklkmaaGM
set_option linter.unusedVariables false
set_option linter.unusedSimpArgs false
namespace Go.Proofs.Ytlihfdbfcklkmaa.Pad.Gf
/-! Boxes -/
def rot (n : Nat) (b : B) : B := (b <<< n) ||| (b >>> (8 - n))
def aff (b : B) : B := b ^^^ rot 1 b ^^^ rot 2 b ^^^ rot 3 b ^^^ rot 4 b ^^^ 0x63#8
def box (a : B) : B := aff (inv a)
def unaff (a : B) : B := rot 1 a ^^^ rot 3 a ^^^ rot 6 a ^^^ 0x05#8
def unbox (a : B) : B := inv (unaff a)
theorem unaff_aff : ∀ a : B, unaff (aff a) = a := by decide +kernel
theorem aff_unaff : ∀ a : B, aff (unaff a) = a := by decide +kernel
theorem unbox_box (a : B) : unbox (box a) = a := by unfold unbox box; rw [unaff_aff, inv_inv]
theorem box_unbox (a : B) : box (unbox a) = a := by unfold unbox box; rw [inv_inv, aff_unaff]
theorem box_inj (a b : B) : box a = box b ↔ a = b := ⟨fun h => by rw [← unbox_box a, h, unbox_box], fun h => by rw [h]⟩
theorem box_ne : ∀ a : B, box a ≠ a := by decide +kernel
/-! Columns -/
abbrev V := B × B × B × B
def vadd (a b : V) : V := (a.1 ^^^ b.1, a.2.1 ^^^ b.2.1, a.2.2.1 ^^^ b.2.2.1, a.2.2.2 ^^^ b.2.2.2)
def vm (k : B) (a : V) : V := (mul k a.1, mul k a.2.1, mul k a.2.2.1, mul k a.2.2.2)
def dot (k0 k1 k2 k3 : B) (c : V) : B := mul k0 c.1 ^^^ mul k1 c.2.1 ^^^ mul k2 c.2.2.1 ^^^ mul k3 c.2.2.2
def circ (k0 k1 k2 k3 : B) (c : V) : V := (dot k0 k1 k2 k3 c, dot k3 k0 k1 k2 c, dot k2 k3 k0 k1 c, dot k1 k2 k3 k0 c)
def mix : V → V := circ 2#8 3#8 1#8 1#8
def unmix : V → V := circ 14#8 11#8 13#8 9#8
theorem dot_add (k0 k1 k2 k3 : B) (c d : V) : dot k0 k1 k2 k3 (vadd c d) = dot k0 k1 k2 k3 c ^^^ dot k0 k1 k2 k3 d := by
  unfold dot vadd
  simp only [mul_add]
  ac_rfl
theorem dot_mul (k k0 k1 k2 k3 : B) (c : V) : dot k0 k1 k2 k3 (vm k c) = mul k (dot k0 k1 k2 k3 c) := by
  unfold dot vm
  simp only [mul_add, ← mul_assoc]
  simp only [mul_comm k]
theorem circ_add (k0 k1 k2 k3 : B) (c d : V) : circ k0 k1 k2 k3 (vadd c d) = vadd (circ k0 k1 k2 k3 c) (circ k0 k1 k2 k3 d) := by
  unfold circ; simp only [dot_add]; rfl
theorem circ_mul (k k0 k1 k2 k3 : B) (c : V) : circ k0 k1 k2 k3 (vm k c) = vm k (circ k0 k1 k2 k3 c) := by
  unfold circ; simp only [dot_mul]; rfl
theorem vparts (c : V) : c = vadd (vadd (vadd (c.1, 0#8, 0#8, 0#8) (0#8, c.2.1, 0#8, 0#8)) (0#8, 0#8, c.2.2.1, 0#8)) (0#8, 0#8, 0#8, c.2.2.2) := by
  obtain ⟨a, b, c, d⟩ := c
  simp [vadd]
theorem vext {f g : V → V} (hf : ∀ c d, f (vadd c d) = vadd (f c) (f d)) (hg : ∀ c d, g (vadd c d) = vadd (g c) (g d)) (h0 : ∀ x, f (x, 0#8, 0#8, 0#8) = g (x, 0#8, 0#8, 0#8)) (h1 : ∀ x, f (0#8, x, 0#8, 0#8) = g (0#8, x, 0#8, 0#8))
    (h2 : ∀ x, f (0#8, 0#8, x, 0#8) = g (0#8, 0#8, x, 0#8)) (h3 : ∀ x, f (0#8, 0#8, 0#8, x) = g (0#8, 0#8, 0#8, x)) (c : V) : f c = g c := by
  rw [vparts c]
  simp only [hf, hg, h0, h1, h2, h3]
theorem unmix_mix (c : V) : unmix (mix c) = c := by
  refine vext (f := fun c => unmix (mix c)) (g := id) (fun c d => by simp only [mix, unmix, circ_add]) (fun _ _ => rfl) ?_ ?_ ?_ ?_ c <;> decide +kernel
theorem mix_unmix (c : V) : mix (unmix c) = c := by
  refine vext (f := fun c => mix (unmix c)) (g := id) (fun c d => by simp only [mix, unmix, circ_add]) (fun _ _ => rfl) ?_ ?_ ?_ ?_ c <;> decide +kernel
/-! As numbers -/
theorem dbl_hi : ∀ x : B, x.getLsbD 7 = true → (2 * x.toNat) ^^^ 283 = (dbl x).toNat ∧ 255 < 2 * x.toNat := by decide +kernel
theorem dbl_lo : ∀ x : B, x.getLsbD 7 = false → 2 * x.toNat = (dbl x).toNat ∧ 2 * x.toNat ≤ 255 := by decide +kernel
theorem bit_mod (b : B) (k : Nat) : b.toNat / 2 ^ k % 2 = 1 ↔ b.getLsbD k = true := by
  rw [← BitVec.testBit_toNat, Nat.testBit_eq_decide_div_mod_eq]
  simp
end Go.Proofs.Ytlihfdbfcklkmaa.Pad.Gf
