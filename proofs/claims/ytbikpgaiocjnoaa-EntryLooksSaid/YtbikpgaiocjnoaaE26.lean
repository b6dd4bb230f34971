/- Structs that come in. -/
import Derived.Test.YtbikpgaiocjnoaaE25
set_option linter.unusedVariables false
set_option linter.unusedSimpArgs false
namespace Go.Proofs.Ytbikpgaiocjnoaa.Pad
theorem fld_cell {P : Program} {n off : Nat} {t : TypeId} {xs : List AV} {x : AV} (h : TyC P n t ((xs.drop off).take (P.cellsOf t))) (hc : P.cellsOf t = 1) (hx : xs[off]? = some x) : TyC P n t [x] := by
  have e : (xs.drop off).take (P.cellsOf t) = [x] := by
    rw [hc]
    obtain ⟨h1, h2⟩ := List.getElem?_eq_some_iff.1 hx
    rw [List.drop_eq_getElem_cons h1, List.take_succ_cons, List.take_zero, h2]
  rwa [e] at h
theorem one_cell {x y : AV} (h : [x] = [y]) : x = y := (List.cons.inj h).1
end Go.Proofs.Ytbikpgaiocjnoaa.Pad
