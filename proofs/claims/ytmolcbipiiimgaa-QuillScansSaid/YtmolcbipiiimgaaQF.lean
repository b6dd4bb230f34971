/- What the laws of quill have in common, as they are asked. -/
import Derived.Test.YtmolcbipiiimgaaRows
import Derived.WalkKit
import Derived.ProofKit
import Derived.OpenShut
import Derived.ShutString
import Derived.Test.YtmolcbipiiimgaaQ0
import Derived.Test.YtmolcbipiiimgaaE17
set_option linter.unusedVariables false
set_option linter.unusedSimpArgs false
namespace Go.Proofs.Ytmolcbipiiimgaa
open Go.ChangeShapes Go.WideShapes Go.ChangeAt Go.RowKit Go.Proofs.Ytmolcbipiiimgaa.Pad
theorem own : ownKnob Try.prog.godebug = none := by kernel_rfl
theorem laidOut : laidOutB Try.prog = true := by kernel_rfl
theorem trod_lt' {H : Type} {enc : TypeId × Value → H} {P : Program} {W : World} {t : TypeId} {v : Value} {d : DataW H} {p : List MemPlace} (h : DataW.Trod enc P W 0 (fun _ => true) true t v d p) : ∀ x ∈ p, x.block < W.heap.size := by
  obtain ⟨n, hn⟩ := h
  exact DataW.trod_lt n _ _ _ hn
theorem rep_sl_len {w : World} {F : Fp} {xs : List AV} {n : Nat} {v : Value} (h : Rep w F (.sl xs n) v) : n ≤ maxLen := by
  simp only [Rep] at h
  obtain ⟨_, c, _, h1, h2, _⟩ := h
  omega
theorem two_of {xs : List AV} (h : xs.length = 2) : ∃ x y, xs = [x, y] := by
  match xs, h with
  | [x, y], _ => exact ⟨x, y, rfl⟩
end Go.Proofs.Ytmolcbipiiimgaa
