/- What the laws have in common, as they are asked. -/
import Derived.Test.YtbikpgaiocjnoaaRows
import Derived.Test.YtbikpgaiocjnoaaProg
import Derived.WalkKit
import Derived.ProofKit
import Derived.OpenShut
import Derived.ShutString
import Derived.Test.YtbikpgaiocjnoaaE19
set_option linter.unusedVariables false
set_option linter.unusedSimpArgs false
namespace Go.Proofs.Ytbikpgaiocjnoaa
open Go.ChangeShapes Go.WideShapes Go.ChangeAt Go.RowKit Go.Proofs.Ytbikpgaiocjnoaa.Pad
theorem own : ownKnob Try.prog.godebug = none := by kernel_rfl
theorem laidOut : laidOutB Try.prog = true := by kernel_rfl
theorem trod_lt' {H : Type} {enc : TypeId × Value → H} {P : Program} {W : World} {t : TypeId} {v : Value} {d : DataW H} {p : List MemPlace} (h : DataW.Trod enc P W 0 (fun _ => true) true t v d p) : ∀ x ∈ p, x.block < W.heap.size := by
  obtain ⟨n, hn⟩ := h
  exact DataW.trod_lt n _ _ _ hn
theorem rep_sl_len {w : World} {F : Fp} {xs : List AV} {n : Nat} {v : Value} (h : Rep w F (.sl xs n) v) : n ≤ maxLen := by
  simp only [Rep] at h
  obtain ⟨_, c, _, h1, h2, _⟩ := h
  omega
end Go.Proofs.Ytbikpgaiocjnoaa

