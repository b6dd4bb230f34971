import Derived.Test.YtmolcbipiiimgaaQ2
import Derived.Test.YtmolcbipiiimgaaQ8
set_option linter.unusedVariables false
set_option linter.unusedSimpArgs false
namespace Go.Proofs.Ytmolcbipiiimgaa
open Go.Proofs.Ytmolcbipiiimgaa.Pad
variable {T : Tab}
theorem aw14 : t14 T 14 [.sl [] 0, .int .i64 2, .int .u64 258] = some (.row 1 (bytesAV [1, 2]) 2) := by
  have e := t14_eq (T := T) [] 2 258 (by decide)
  rw [show numB [] 2 258 = [1, 2] from by decide] at e
  exact e
theorem aw10 : t10 T 10 [.sl (bytesAV [1, 2]) 2, .str [97, 98]] = some (.tup [.sl (bytesAV [1, 2, 0, 2, 97, 98]) 6, .int .i64 0]) := by
  have e := t10_eq (T := T) [1, 2] [97, 98] (by decide)
  rw [show [1, 2] ++ rowB [97, 98] = [1, 2, 0, 2, 97, 98] from by decide] at e
  exact e
theorem n24 : takeNum [1, 2, 0, 2, 97, 98] 0 0 2 = (258, 2, 0) := by decide
theorem n22 : takeRow [1, 2, 0, 2, 97, 98] 2 0 = ([97, 98], 6, 0) := by decide
theorem n24' : takeNum [1, 2, 0, 2, 97, 98] 6 0 1 = (0, 6, 3) := by decide
theorem n26 : splitOf [0, 1, 120, 0, 0] = ([[120], []], 0) := by decide
theorem n19 : endOf [1, 2, 0, 2, 97, 98] 6 0 = 0 := by decide
theorem n17 : restOf [1, 2, 0, 2, 97, 98] 2 0 = [0, 2, 97, 98] := by decide
set_option maxHeartbeats 4000000 in
theorem awake_pf (hT : Sound Try.prog T) : PFx Try.prog 9 [] (.bool true) := by
  refine PFx_of_W (rc := rc9) (rs := rs9) Try.func9 rfl (t14_ok (t10_ok (t24_ok (t22_ok (t26_ok (t19_ok (t17_ok hT))))))) hm (by kernel_rfl) (by kernel_rfl) (by simp [Try.ntmps9]) ?_
  simp [rc9, rs9, aw14, aw10, n24, n22, n24', n26, n19, n17, -W_condI, ↓W_cond]
noncomputable def t9 (T : Tab) : Tab := tabAdd T 9 (fun _ : Unit => True) (fun _ => []) (fun _ => .bool true)
@[simp] theorem t9_eq : t9 T 9 [] = some (.bool true) := tabAdd_eq (a := ()) (by simp) trivial rfl
@[simp] theorem t9_ne {g : Nat} {xs : List AV} (h : g ≠ 9) : t9 T g xs = T g xs := tabAdd_ne h
theorem t9_ok (hT : Sound Try.prog T) : Sound Try.prog (t9 T) := tabAdd_sound hT fun _ _ => awake_pf hT
theorem lawSplits_pf (t : List UInt8) : PFx Try.prog 5 [.str t] (.bool true) := by
  refine PFx_of_W (rc := rc5) (rs := rs5) Try.func5 rfl (t9_ok (t26_ok (t27_ok (t28_ok tabNil_sound)))) hm (by kernel_rfl) (by kernel_rfl) (by simp [Try.ntmps5]) ?_
  have e28 := t28_eq (T := tabNil) (splitOf t).1 (splitOf t).1 (by have := splitOf_len t; omega)
  by_cases h : (t.length : Int) ≤ 400
  · have h' : t.length ≤ 1000000 := by omega
    simp [rc5, rs5, show ¬ (400 : Int) < t.length by omega, h', e28]
  · simp [rc5, rs5, show (400 : Int) < t.length by omega]
end Go.Proofs.Ytmolcbipiiimgaa
