/- What the library tells of a function that takes a text and gives one. -/
import Derived.Test.YtmolcbipiiimgaaE16
import Derived.Below
namespace Go.Proofs.Ytmolcbipiiimgaa.Pad
open Go.RowKit
theorem chg_of_below {w w' : World} {S : Fp} (h : Below w.heap.size w w') : Chg S w w' :=
  ⟨h.os, h.tape, h.output, h.size, fun k hk _ => h.block k hk, fun k c e f hh => ⟨c, (h.block k (lt_of_heap hh)).trans hh, rfl, fun _ _ => rfl⟩⟩
theorem pf_of_str {P : Program} {f : Nat} {l r : List UInt8} (h : ∀ w, Calls P f #[.string ⟨l.toArray⟩] w fun e w' => e = .returned (.string ⟨r.toArray⟩) ∧ Below w.heap.size w w') : PFx P f [.str l] (.str r) := by
  intro w F Os vs hvs hargs hsep hdis hinF hinO
  obtain ⟨v, rfl⟩ : ∃ v, vs = #[v] := by
    obtain ⟨l⟩ := vs
    match l, hvs with
    | [v], _ => exact ⟨v, rfl⟩
  have h1 := (hargs 0 (.str l) v rfl rfl).1
  simp only [RepTop, Rep] at h1
  subst h1
  refine (h w).mono ?_
  rintro e w' ⟨rfl, hb⟩
  refine ⟨_, F, NoFp, rfl, chg_of_below hb, by simp only [RepTop, Rep], fun _ _ hn => hn.elim, fun b o hF => .inl hF, fun _ _ hn => hn.elim, fun b o hF => Nat.lt_of_lt_of_le (hinF b o hF) hb.size, fun _ _ hn => hn.elim, ?_⟩
  trivial
theorem W_condI {T : Tab} {Q : Ex → St → Prop} {s : St} {t : Nat} {a b : RC} : W T (.cond t a b) Q s = (s.D t ∧ (s.env t).isB ∧ if (s.env t).toB = true then W T a Q s else W T b Q s) := by
  rw [W_cond]
  cases (s.env t).toB <;> simp
end Go.Proofs.Ytmolcbipiiimgaa.Pad
