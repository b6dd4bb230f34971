/- Whether a text is one of characters only, by the library. -/
import Derived.Test.YtbinejcnoogoiaaDoorT5
set_option linter.unusedVariables false
set_option linter.unusedSimpArgs false
namespace Go.Proofs.YtbinejcnoogoiaaDoor
open Go.Proofs.YtbinejcnoogoiaaDoor.Pad Go.Proofs.YtbinejcnoogoiaaDoor.Pad.Route Go.Proofs.YtbinejcnoogoiaaDoor.Pad.Runes Go.Proofs.YtbinejcnoogoiaaDoor.Pad.Utf
theorem sh0 (b : UInt8) : (b.toNat : Int) = bv ((b.toBitVec.setWidth 64) <<< 0) := by simp [bv_byte64]
theorem sh8 (b : UInt8) : IntKind.u64.wrap ((b.toNat : Int) * 2 ^ min 8 IntKind.u64.bits) = bv ((b.toBitVec.setWidth 64) <<< 8) := by
  have := sh_bv b 8
  rwa [show (((2 ^ 8 : Nat) : Nat) : Int) = 2 ^ min 8 IntKind.u64.bits by decide] at this
theorem sh16 (b : UInt8) : IntKind.u64.wrap ((b.toNat : Int) * 2 ^ min 16 IntKind.u64.bits) = bv ((b.toBitVec.setWidth 64) <<< 16) := by
  have := sh_bv b 16
  rwa [show (((2 ^ 16 : Nat) : Nat) : Int) = 2 ^ min 16 IntKind.u64.bits by decide] at this
theorem sh24 (b : UInt8) : IntKind.u64.wrap ((b.toNat : Int) * 2 ^ min 24 IntKind.u64.bits) = bv ((b.toBitVec.setWidth 64) <<< 24) := by
  have := sh_bv b 24
  rwa [show (((2 ^ 24 : Nat) : Nat) : Int) = 2 ^ min 24 IntKind.u64.bits by decide] at this
theorem sh32 (b : UInt8) : IntKind.u64.wrap ((b.toNat : Int) * 2 ^ min 32 IntKind.u64.bits) = bv ((b.toBitVec.setWidth 64) <<< 32) := by
  have := sh_bv b 32
  rwa [show (((2 ^ 32 : Nat) : Nat) : Int) = 2 ^ min 32 IntKind.u64.bits by decide] at this
theorem sh40 (b : UInt8) : IntKind.u64.wrap ((b.toNat : Int) * 2 ^ min 40 IntKind.u64.bits) = bv ((b.toBitVec.setWidth 64) <<< 40) := by
  have := sh_bv b 40
  rwa [show (((2 ^ 40 : Nat) : Nat) : Int) = 2 ^ min 40 IntKind.u64.bits by decide] at this
theorem sh48 (b : UInt8) : IntKind.u64.wrap ((b.toNat : Int) * 2 ^ min 48 IntKind.u64.bits) = bv ((b.toBitVec.setWidth 64) <<< 48) := by
  have := sh_bv b 48
  rwa [show (((2 ^ 48 : Nat) : Nat) : Int) = 2 ^ min 48 IntKind.u64.bits by decide] at this
theorem sh56 (b : UInt8) : IntKind.u64.wrap ((b.toNat : Int) * 2 ^ min 56 IntKind.u64.bits) = bv ((b.toBitVec.setWidth 64) <<< 56) := by
  have := sh_bv b 56
  rwa [show (((2 ^ 56 : Nat) : Nat) : Int) = 2 ^ min 56 IntKind.u64.bits by decide] at this
theorem pf34 (l : List UInt8) (h : 8 ≤ l.length ∧ l.length ≤ 1000000) : PFx Tryd.prog 34 [.str l] (.int .u64 (bv (wd l))) := by
  refine PFx_of_W (rc := rc34) (rs := rs34) Tryd.func34 rfl T22_ok hm (by kernel_rfl) (by kernel_rfl) (by simp [Tryd.ntmps34]) ?_
  obtain ⟨h0, h1⟩ := h
  simp [rc34, rs34]
  rw [sh8, sh16, sh24, sh32, sh40, sh48, sh56, sh0, bv_or64, bv_or64, bv_or64, bv_or64, bv_or64, bv_or64, bv_or64]
  have hb : ∀ k : Nat, ((l[k]?.getD 0).toNat : Int) ≤ 18446744073709551615 := fun k => by have := (l[k]?.getD 0).toNat_lt; omega
  refine ⟨by omega, by rw [← sh0]; exact hb 0, by omega, hb 1, by omega, hb 2, by omega, hb 3, by omega, hb 4, by omega, hb 5, by omega, hb 6, by omega, hb 7, ?_⟩
  rfl
noncomputable def T34 : Tab := tabAdd T22 34 (fun z : (List UInt8) => 8 ≤ z.length ∧ z.length ≤ 1000000) (fun z => [.str z]) (fun z => .int .u64 (bv (wd z)))
@[simp] theorem T34_eq (l : List UInt8) (h : 8 ≤ l.length ∧ l.length ≤ 1000000) : T34 34 [.str l] = some (.int .u64 (bv (wd l))) := tabAdd_eq (a := l) (by simp +contextual [Int.natCast_inj]) h rfl
@[simp] theorem T34_ne {g : Nat} {xs : List AV} (h : g ≠ 34) : T34 g xs = T22 g xs := tabAdd_ne h
theorem T34_ok : Sound Tryd.prog T34 := tabAdd_sound T22_ok fun z h => pf34 z h
theorem and_hi (x : BitVec 64) : bits .and .u64 (bv x) 9259542123273814144 = bv (x &&& hiB) := bv_and64 x hiB
theorem bv_zero (x : BitVec 64) : (bv x = 0) = (x = 0#64) := by
  apply propext
  constructor
  · intro h; exact (bv_inj x 0#64).1 h
  · rintro rfl; rfl
theorem wd_skip {q : List UInt8} (h : wd q &&& hiB = 0#64) (hl : 8 ≤ q.length) : validL q = validL (q.drop 8) := valid_skip q 8 hl ((wd_hi q).1 h)
end Go.Proofs.YtbinejcnoogoiaaDoor

