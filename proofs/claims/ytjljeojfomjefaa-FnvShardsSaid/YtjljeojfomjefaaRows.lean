/-
  No cell of these rows narrows 'for every input' (looked for: loops, veiled, ifaces, maps, wideKeys, modest, calm, conditions, laid).
  DERIVED. THE GIVEN ROWS OF THIS SEAT. 4 by the template 'for every input the law returns true; each argument reads behind the call as it read before'; 0 by the template 'total and deterministic' (their statements: YtjljeojfomjefaaTotals.lean).
  GIVEN WITH THE SEED: the statements are not yours to turn. If you find one false, say at which input.
  Laid BY PROGRAM, IN A SANDBOX (cutbox-rows.mjs): the forced cells as the released guide's own fill.sh prints them over the translation f69c2b1e1b502f0f… (all of the seat's roots in one cut). By AI agents, Wed Nov 11 2026. No macro, syntax, notation, axiom, sorry.
-/
import Derived.Test.YtjljeojfomjefaaChecked
import GoSem.Claim
import GoSem.ClaimJoined
import GoSem.ClaimMapViews
import Derived.JoinedTies
import Derived.KernelRfl
namespace Go.Proofs.Ytjljeojfomjefaa
/- THE CELL 'sum', in the pinned program and in every row, IS THE sha256 OF THE DUMP (.gsa) THAT YtjljeojfomjefaaProg.lean LOADS. Nothing in Lean hashes anything: it is a label: what it is worth is what the hold of that sum in a sandbox is worth. -/
noncomputable def Try.pinned : Pinned := { name := "ytjljeojfomjefaa", sum := "f69c2b1e1b502f0fbbcf761e5242c5cd8f20300cbfdba2c9e9a23824b8e6fcbe", checked := Try.checked }
namespace Rows
def none {H : Type} : Left H := { results := [], args := [] }

/-- 'padlocklaw03.FnvSums': WHATEVER THE INPUT: true; the input reads as it did. -/
def fnvSumsSpec : ChangeSpec := { name := "fnvSums", fn := fun _ => fun
  | [d1, d2, d3] => { results := [.lit (.bool true)], args := [d1, d2, d3] }
  | _ => none }
def fnvSumsRow : OpenClaim := { program := "ytjljeojfomjefaa", sum := "f69c2b1e1b502f0fbbcf761e5242c5cd8f20300cbfdba2c9e9a23824b8e6fcbe", func := "padlock/padlocklaw03.FnvSums", spec := "fnvSums", apart := false }
def FnvSumsSaid : Prop := fnvSumsRow.holds Try.pinned (OpenSpec.ofChange fnvSumsSpec)

/-- ITS FALSE NEIGHBOUR: 'it returns false'. Refute it at one input. -/
def fnvSumsWrong : ChangeSpec := { name := "fnvSums", fn := fun _ => fun
  | [d1, d2, d3] => { results := [.lit (.bool false)], args := [d1, d2, d3] }
  | _ => none }
def FnvSumsWrongFalsely : Prop := fnvSumsRow.holds Try.pinned (OpenSpec.ofChange fnvSumsWrong)

/-- 'padlocklaw03.FnvShards': WHATEVER THE INPUT: true; the input reads as it did. -/
def fnvShardsSpec : ChangeSpec := { name := "fnvShards", fn := fun _ => fun
  | [d1, d2] => { results := [.lit (.bool true)], args := [d1, d2] }
  | _ => none }
def fnvShardsRow : OpenClaim := { program := "ytjljeojfomjefaa", sum := "f69c2b1e1b502f0fbbcf761e5242c5cd8f20300cbfdba2c9e9a23824b8e6fcbe", func := "padlock/padlocklaw03.FnvShards", spec := "fnvShards", apart := false }
def FnvShardsSaid : Prop := fnvShardsRow.holds Try.pinned (OpenSpec.ofChange fnvShardsSpec)

/-- ITS FALSE NEIGHBOUR: 'it returns false'. Refute it at one input. -/
def fnvShardsWrong : ChangeSpec := { name := "fnvShards", fn := fun _ => fun
  | [d1, d2] => { results := [.lit (.bool false)], args := [d1, d2] }
  | _ => none }
def FnvShardsWrongFalsely : Prop := fnvShardsRow.holds Try.pinned (OpenSpec.ofChange fnvShardsWrong)

/-- 'padlocklaw03.FnvUndoes': WHATEVER THE INPUT: true; the input reads as it did. -/
def fnvUndoesSpec : ChangeSpec := { name := "fnvUndoes", fn := fun _ => fun
  | [d1, d2] => { results := [.lit (.bool true)], args := [d1, d2] }
  | _ => none }
def fnvUndoesRow : OpenClaim := { program := "ytjljeojfomjefaa", sum := "f69c2b1e1b502f0fbbcf761e5242c5cd8f20300cbfdba2c9e9a23824b8e6fcbe", func := "padlock/padlocklaw03.FnvUndoes", spec := "fnvUndoes", apart := false }
def FnvUndoesSaid : Prop := fnvUndoesRow.holds Try.pinned (OpenSpec.ofChange fnvUndoesSpec)

/-- ITS FALSE NEIGHBOUR: 'it returns false'. Refute it at one input. -/
def fnvUndoesWrong : ChangeSpec := { name := "fnvUndoes", fn := fun _ => fun
  | [d1, d2] => { results := [.lit (.bool false)], args := [d1, d2] }
  | _ => none }
def FnvUndoesWrongFalsely : Prop := fnvUndoesRow.holds Try.pinned (OpenSpec.ofChange fnvUndoesWrong)

/-- 'padlocklaw03.FnvSets': WHATEVER THE INPUT: true; the input reads as it did. -/
def fnvSetsSpec : ChangeSpec := { name := "fnvSets", fn := fun _ => fun
  | [d1, d2, d3] => { results := [.lit (.bool true)], args := [d1, d2, d3] }
  | _ => none }
def fnvSetsRow : OpenClaim := { program := "ytjljeojfomjefaa", sum := "f69c2b1e1b502f0fbbcf761e5242c5cd8f20300cbfdba2c9e9a23824b8e6fcbe", func := "padlock/padlocklaw03.FnvSets", spec := "fnvSets", apart := false }
def FnvSetsSaid : Prop := fnvSetsRow.holds Try.pinned (OpenSpec.ofChange fnvSetsSpec)

/-- ITS FALSE NEIGHBOUR: 'it returns false'. Refute it at one input. -/
def fnvSetsWrong : ChangeSpec := { name := "fnvSets", fn := fun _ => fun
  | [d1, d2, d3] => { results := [.lit (.bool false)], args := [d1, d2, d3] }
  | _ => none }
def FnvSetsWrongFalsely : Prop := fnvSetsRow.holds Try.pinned (OpenSpec.ofChange fnvSetsWrong)

/- THE SECOND FORM. 'bulk': how many values and letters a reading holds, each counted each time it is reached (what is shared counts as often as it is met; a slice's spare places count too). A statement '..UptoSaid' is the law's where the arguments, and the package variables that the reading takes, are together of bulk at most 1048576: NARROWER than '..Said'. Prove '..Said' where nothing that the law and all that it calls make is longer than what came in: it says more and counts as full. Else prove '..UptoSaid'. A law counts once. -/
mutual
def uptoBulk {H : Type} : DataW H → Nat
  | .lit (.string bytes) => bytes.length + 1
  | .lit _ => 1
  | .nil => 1
  | .ptr d => uptoBulk d + 1
  | .slice elems spare => uptoBulkAll elems + uptoBulkAll spare + 1
  | .agg parts => uptoBulkAll parts + 1
  | .iface _ d => uptoBulk d + 1
  | .map entries => uptoBulkEntries entries + 1
  | .held _ => 1
def uptoBulkAll {H : Type} : List (DataW H) → Nat
  | [] => 0
  | d :: r => uptoBulk d + uptoBulkAll r
def uptoBulkEntries {H : Type} : List (Lit × DataW H) → Nat
  | [] => 0
  | x :: r => uptoBulkEntry x + uptoBulkEntries r
def uptoBulkEntry {H : Type} : Lit × DataW H → Nat
  | (.string bytes, d) => bytes.length + uptoBulk d + 1
  | (_, d) => uptoBulk d + 1
 end
def uptoSmall : (H : Type) → List (DataW H) → Bool := fun _ ds => decide (uptoBulkAll ds ≤ 1048576)
def OpenSpec.upto (s : _root_.Go.ChangeSpec) : _root_.Go.OpenSpec := { _root_.Go.OpenSpec.ofChange s with cond := some uptoSmall }

/-- 'padlocklaw03.FnvSums', WHERE WHAT IT READS IS OF BULK AT MOST 1048576: true; the input reads as it did. -/
def fnvSumsUptoRow : OpenClaim := { program := "ytjljeojfomjefaa", sum := "f69c2b1e1b502f0fbbcf761e5242c5cd8f20300cbfdba2c9e9a23824b8e6fcbe", func := "padlock/padlocklaw03.FnvSums", spec := "fnvSums", apart := false, narrowed := true }
def FnvSumsUptoSaid : Prop := fnvSumsUptoRow.holds Try.pinned (OpenSpec.upto fnvSumsSpec)

/-- 'padlocklaw03.FnvShards', WHERE WHAT IT READS IS OF BULK AT MOST 1048576: true; the input reads as it did. -/
def fnvShardsUptoRow : OpenClaim := { program := "ytjljeojfomjefaa", sum := "f69c2b1e1b502f0fbbcf761e5242c5cd8f20300cbfdba2c9e9a23824b8e6fcbe", func := "padlock/padlocklaw03.FnvShards", spec := "fnvShards", apart := false, narrowed := true }
def FnvShardsUptoSaid : Prop := fnvShardsUptoRow.holds Try.pinned (OpenSpec.upto fnvShardsSpec)

/-- 'padlocklaw03.FnvUndoes', WHERE WHAT IT READS IS OF BULK AT MOST 1048576: true; the input reads as it did. -/
def fnvUndoesUptoRow : OpenClaim := { program := "ytjljeojfomjefaa", sum := "f69c2b1e1b502f0fbbcf761e5242c5cd8f20300cbfdba2c9e9a23824b8e6fcbe", func := "padlock/padlocklaw03.FnvUndoes", spec := "fnvUndoes", apart := false, narrowed := true }
def FnvUndoesUptoSaid : Prop := fnvUndoesUptoRow.holds Try.pinned (OpenSpec.upto fnvUndoesSpec)

/-- 'padlocklaw03.FnvSets', WHERE WHAT IT READS IS OF BULK AT MOST 1048576: true; the input reads as it did. -/
def fnvSetsUptoRow : OpenClaim := { program := "ytjljeojfomjefaa", sum := "f69c2b1e1b502f0fbbcf761e5242c5cd8f20300cbfdba2c9e9a23824b8e6fcbe", func := "padlock/padlocklaw03.FnvSets", spec := "fnvSets", apart := false, narrowed := true }
def FnvSetsUptoSaid : Prop := fnvSetsUptoRow.holds Try.pinned (OpenSpec.upto fnvSetsSpec)

end Rows
end Go.Proofs.Ytjljeojfomjefaa
