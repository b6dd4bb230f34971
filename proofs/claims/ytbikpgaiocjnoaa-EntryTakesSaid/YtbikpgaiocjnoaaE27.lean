/- Functions that call themselves. -/
import Derived.Test.YtbikpgaiocjnoaaE16
set_option linter.unusedVariables false
set_option linter.unusedSimpArgs false
namespace Go.Proofs.Ytbikpgaiocjnoaa.Pad
/-- What a function tells that calls itself: shown of arguments, where it is known of all that are smaller. -/
theorem tabRec {P : Program} [Globs P] {T : Tab} {f : Nat} {α : Type} {p : α → Prop} {args : α → List AV} {res : α → AV} (μ : α → Nat) (hT : Sound P T)
    (h : ∀ a, p a → Sound P (tabAdd T f (fun b => p b ∧ μ b < μ a) args res) → PFx P f (args a) (res a)) (hf : f < inPlace := by unfold inPlace; omega) : ∀ a, p a → PFx P f (args a) (res a) := by
  have key : ∀ n a, μ a < n → p a → PFx P f (args a) (res a) := by
    intro n
    induction n with
    | zero => intro a ha; omega
    | succ n ih => intro a ha hp; exact h a hp (tabAdd_sound hT (fun b hb => ih b (by omega) hb.1) hf)
  exact fun a hp => key _ a (Nat.lt_succ_self _) hp
end Go.Proofs.Ytbikpgaiocjnoaa.Pad
