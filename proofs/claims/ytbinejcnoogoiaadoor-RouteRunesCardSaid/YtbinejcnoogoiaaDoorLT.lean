/- What the laws that list variables have in common, as they are asked. -/
import Derived.Test.YtbinejcnoogoiaaDoorRows
import Derived.Test.YtbinejcnoogoiaaDoorCards
import Derived.Test.YtbinejcnoogoiaaDoorTie
import Derived.Test.YtbinejcnoogoiaaDoorProg
import Derived.WalkKit
import Derived.ProofKit
import Derived.OpenShut
import Derived.ShutString
import Derived.LaidMore
import Derived.Lay
import Derived.LaidOnce
import Derived.SevenTiedAt
import Derived.Stop.Joined
import Derived.Test.YtbinejcnoogoiaaDoorE21
import Derived.Test.YtbinejcnoogoiaaDoorT0
set_option linter.unusedVariables false
set_option linter.unusedSimpArgs false
namespace Go.Proofs.YtbinejcnoogoiaaDoor
open Go.ChangeShapes Go.WideShapes Go.ChangeAt Go.RowKit Go.Proofs.YtbinejcnoogoiaaDoor.Pad
theorem own : ownKnob Tryd.prog.godebug = none := by kernel_rfl
theorem laidOut : laidOutB Tryd.prog = true := by kernel_rfl
theorem trod_lt' {H : Type} {enc : TypeId × Value → H} {P : Program} {W : World} {t : TypeId} {v : Value} {d : DataW H} {p : List MemPlace} (h : DataW.Trod enc P W 0 (fun _ => true) true t v d p) : ∀ x ∈ p, x.block < W.heap.size := by
  obtain ⟨n, hn⟩ := h
  exact DataW.trod_lt n _ _ _ hn
theorem rep_sl_len {w : World} {F : Fp} {xs : List AV} {n : Nat} {v : Value} (h : Rep w F (.sl xs n) v) : n ≤ maxLen := by
  simp only [Rep] at h
  obtain ⟨_, c, _, h1, h2, _⟩ := h
  omega
def laidL : List (String × DataW Unit) := [("unicode/utf8.acceptRanges", Rows.laid_unicode_utf8_acceptRanges), ("unicode/utf8.first", Rows.laid_unicode_utf8_first)]
set_option maxRecDepth 100000 in
theorem globs {W : World} (h : laidMetH Tryd.prog laidL W) : GlobOk Tryd.prog W (Fall W) := by
  rw [MakeChecks.laidMetH_plain _ _ _ (by kernel_rfl)] at h
  intro p hp
  have hp' : p = (0, gl0) ∨ p = (1, gl1) := by
    rcases List.mem_cons.1 hp with e | e
    · exact .inl e
    · rcases List.mem_cons.1 e with e | e
      · exact .inr e
      · cases e
  rcases hp' with rfl | rfl
  · exact glob_of_laid (t := 61) (m := 9) h (.tail _ (.head _)) (by kernel_rfl) (by kernel_rfl) (by kernel_rfl) (by kernel_rfl)
  · exact glob_of_laid (t := 64) (m := 9) h (.head _) (by kernel_rfl) (by kernel_rfl) (by kernel_rfl) (by kernel_rfl)
end Go.Proofs.YtbinejcnoogoiaaDoor

