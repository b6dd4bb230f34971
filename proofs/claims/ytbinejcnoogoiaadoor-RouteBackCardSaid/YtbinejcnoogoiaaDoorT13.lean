/- What every program tells of some texts. -/
import Derived.Test.YtbinejcnoogoiaaDoorT12
set_option linter.unusedVariables false
set_option linter.unusedSimpArgs false
namespace Go.Proofs.YtbinejcnoogoiaaDoor
open Go.Proofs.YtbinejcnoogoiaaDoor.Pad Go.Proofs.YtbinejcnoogoiaaDoor.Pad.Route Go.Proofs.YtbinejcnoogoiaaDoor.Pad.Runes Go.Proofs.YtbinejcnoogoiaaDoor.Pad.Utf
set_option maxHeartbeats 4000000 in
theorem pf7   : PFx Tryd.prog 7 [] (.bool true) := by
  refine PFx_of_W (rc := rc7) (rs := rs7) Tryd.func7 rfl T21_ok hm (by kernel_rfl) (by kernel_rfl) (by simp [Tryd.ntmps7]) ?_
  have a1 : T19 19 [.str [116, 101, 97, 109, 47, 195, 164, 112, 102, 101, 108]] = some (.tup [.sl [.str [116, 101, 97, 109], .str [195, 164, 112, 102, 101, 108]] 2, .int .i64 0]) := by
    rw [T19_eq _ (by decide), show partsR [116, 101, 97, 109, 47, 195, 164, 112, 102, 101, 108] = [[116, 101, 97, 109], [195, 164, 112, 102, 101, 108]] by decide +kernel, show checkE [116, 101, 97, 109, 47, 195, 164, 112, 102, 101, 108] = 0 by decide +kernel]
    rfl
  have a2 : T20 20 [.sl [.str [97], .str [98]] 2] = some (.tup [.str [97, 47, 98], .int .i64 0]) := by
    have := T20_eq [[97], [98]] (by decide +kernel)
    rwa [show joinS [[97], [98]] = [97, 47, 98] by decide +kernel, show joinE [[97], [98]] = 0 by decide +kernel] at this
  have a3 : T14 14 [.str [97, 195, 164, 255]] = some (.tup [.int .i64 3, .int .i64 4]) := by
    rw [T14_eq _ (by decide), show tn [97, 195, 164, 255] = 3 by decide +kernel, show cntE [97, 195, 164, 255] = 4 by decide +kernel]
    rfl
  have a4 : T16 16 [.str [97, 32, 98, 47, 195, 164, 33]] = some (.str [97, 98, 195, 164]) := by
    rw [T16_eq _ (by decide), show cleanL [97, 32, 98, 47, 195, 164, 33] = [97, 98, 195, 164] by decide +kernel]
  have a5 : T12 12 [.str [97, 47, 47, 98]] = some (.int .i64 4) := by
    rw [T12_eq _ (by decide), show checkE [97, 47, 47, 98] = 4 by decide +kernel]
  have a6 : T10 10 [.str [46, 46]] = some (.int .i64 4) := by
    rw [T10_eq _ (by decide), show partE [46, 46] = 4 by decide +kernel]
  have a7 : T8 8 [.int .i32 223] = some (.bool true) := by
    rw [T8_eq, show okc 223 = true by decide]
  have a8 : T8 8 [.int .i32 47] = some (.bool false) := by
    rw [T8_eq, show okc 47 = false by decide]
  simp [rc7, rs7, a1, a2, a3, a4, a5, a6, a7, a8]
noncomputable def T7 : Tab := tabAdd T21 7 (fun _ : Unit => True) (fun _ => []) (fun _ => .bool true)
@[simp] theorem T7_eq   : T7 7 [] = some (.bool true) := tabAdd_eq (a := ()) (by simp +contextual [Int.natCast_inj]) trivial rfl
@[simp] theorem T7_ne {g : Nat} {xs : List AV} (h : g ≠ 7) : T7 g xs = T21 g xs := tabAdd_ne h
theorem T7_ok : Sound Tryd.prog T7 := tabAdd_sound T21_ok fun _ _ => pf7  
end Go.Proofs.YtbinejcnoogoiaaDoor

