import Derived.Test.YtmolcbipiiimgaaProg
import Derived.Shelf.Pu.Clone
import Derived.Test.YtmolcbipiiimgaaE17
import Derived.Test.YtmolcbipiiimgaaQ0
set_option linter.unusedVariables false
set_option linter.unusedSimpArgs false
namespace Go.Proofs.Ytmolcbipiiimgaa
open Go.Shelf Go.RowKit Go.Proofs.Ytmolcbipiiimgaa.Pad
def ren : Ren := { f := fun n => if n = 25 then 40 else n, t := fun n => match n with | 37 => 22 | 47 => 75 | n => n, g := fun n => n }
theorem lays : LaysPu.n25 Try.prog ren := by
  constructor
  all_goals first | kernel_rfl | (intro w; kernel_rfl)
theorem cloneIn_pf (l : List UInt8) (h : l.length ≤ 1000000) : PFx Try.prog 40 [.str l] (.str l) :=
  pf_of_str fun w => AnyPu.stringslite_Clone lays ⟨l.toArray⟩ w (by show l.toArray.size ≤ _; simp; omega)
variable {T : Tab}
noncomputable def t40 (T : Tab) : Tab := tabAdd T 40 (fun x : List UInt8 => x.length ≤ 1000000) (fun x => [.str x]) (fun x => .str x)
@[simp] theorem t40_eq (x : List UInt8) (h : x.length ≤ 1000000) : t40 T 40 [.str x] = some (.str x) := tabAdd_eq (a := x) (by simp) h rfl
@[simp] theorem t40_ne {g : Nat} {xs : List AV} (h : g ≠ 40) : t40 T g xs = T g xs := tabAdd_ne h
theorem t40_ok (hT : Sound Try.prog T) : Sound Try.prog (t40 T) := tabAdd_sound hT fun x h => cloneIn_pf x h
theorem clone_pf (hT : Sound Try.prog T) (l : List UInt8) (h : l.length ≤ 1000000) : PFx Try.prog 39 [.str l] (.str l) := by
  refine PFx_of_W (rc := rc39) (rs := rs39) Try.func39 rfl (t40_ok hT) (by kernel_rfl) (by kernel_rfl) (by kernel_rfl) (by simp [Try.ntmps39]) ?_
  simp [rc39, rs39, h, -W_condI, ↓W_cond]
noncomputable def t39 (T : Tab) : Tab := tabAdd T 39 (fun x : List UInt8 => x.length ≤ 1000000) (fun x => [.str x]) (fun x => .str x)
@[simp] theorem t39_eq (x : List UInt8) (h : x.length ≤ 1000000) : t39 T 39 [.str x] = some (.str x) := tabAdd_eq (a := x) (by simp) h rfl
@[simp] theorem t39_ne {g : Nat} {xs : List AV} (h : g ≠ 39) : t39 T g xs = T g xs := tabAdd_ne h
theorem t39_ok (hT : Sound Try.prog T) : Sound Try.prog (t39 T) := tabAdd_sound hT fun x h => clone_pf hT x h
end Go.Proofs.Ytmolcbipiiimgaa
