/- What the library tells of a function that takes a text and gives one. -/
import Derived.Test.YtbikpgaiocjnoaaE16
import Derived.Below
import Derived.Test.YtbikpgaiocjnoaaE15
set_option linter.unusedVariables false
set_option linter.unusedSimpArgs false
namespace Go.Proofs.Ytbikpgaiocjnoaa.Pad
open Go.RowKit
theorem chg_of_below {w w' : World} {S : Fp} (h : Below w.heap.size w w') : Chg S w w' :=
  ⟨h.os, h.tape, h.output, h.size, fun k hk _ => h.block k hk, fun k c e f hh => ⟨c, (h.block k (lt_of_heap hh)).trans hh, rfl, fun _ _ => rfl⟩, fun k hk hn c e f => by rw [h.block k hk]; exact hn c e f⟩
theorem pf_of_str {P : Program} [Globs P] {f : Nat} {l r : List UInt8} (h : ∀ w, Calls P f #[.string ⟨l.toArray⟩] w fun e w' => e = .returned (.string ⟨r.toArray⟩) ∧ Below w.heap.size w w') : PFx P f [.str l] (.str r) := by
  intro w F Os β vs hgiven
  obtain ⟨hG, hvs, hargs, hsep, hdis, hinF, hinO⟩ := hgiven
  obtain ⟨v, rfl⟩ : ∃ v, vs = #[v] := by
    obtain ⟨l⟩ := vs
    match l, hvs with
    | [v], _ => exact ⟨v, rfl⟩
  have h1 := (hargs 0 (.str l) v rfl rfl).1
  simp only [RepTop, Rep] at h1
  subst h1
  refine (h w).mono ?_
  rintro e w' ⟨rfl, hb⟩
  refine ⟨_, F, NoFp, 0, rfl, chg_of_below hb, by simp only [RepTop, Rep], fun _ _ hn => hn.elim, fun b o hF => .inl hF, fun _ _ hn => hn.elim, fun b o hF => Nat.lt_of_lt_of_le (hinF b o hF) hb.size, fun _ _ hn => hn.elim, ?_⟩
  trivial
/-- An array of numbers that comes in. -/
theorem ints_of {P : Program} {n : Nat} {e : TypeId} {k : IntKind} (he : P.underlying e = some (.int k)) (hc : P.cellsOf e = 1) : ∀ (m : Nat) (xs : List AV), xs.length = m → (∀ i, i < m → TyC P n e ((xs.drop i).take 1)) → ∃ ns : List Int, ns.length = m ∧ xs = ns.map (.int k) ∧ ∀ x ∈ ns, inK k x
  | 0, xs, hl, _ => ⟨[], rfl, List.eq_nil_of_length_eq_zero hl, fun _ h => by cases h⟩
  | m + 1, [], hl, _ => by simp at hl
  | m + 1, x :: xs, hl, h => by
    obtain ⟨ns, h1, h2, h3⟩ := ints_of he hc m xs (by simpa using hl) (fun i hi => by simpa using h (i + 1) (by omega))
    obtain ⟨a, h4, h5⟩ := tyc_int he (h 0 (by omega))
    simp at h4
    subst h4
    refine ⟨a :: ns, by simp [h1], by simp [h2], fun y hy => ?_⟩
    rcases List.mem_cons.1 hy with rfl | hy
    · exact h5
    · exact h3 y hy
theorem ty_arr_ints {P : Program} {t e : TypeId} {m : Nat} {k : IntKind} {x : AV} (hu : P.underlying t = some (.array m e)) (he : P.underlying e = some (.int k)) (hc : P.cellsOf e = 1) (hm : P.cellsOf t = m) (h : ArgTy P t x) : ∃ ns : List Int, ns.length = m ∧ x = .agg (ns.map (.int k)) ∧ ∀ y ∈ ns, inK k y := by
  obtain ⟨n, xs, rfl, hl, hx⟩ := ty_arr hu h
  obtain ⟨ns, h1, h2, h3⟩ := ints_of he hc m xs (hl.trans hm) (fun i hi => by have := hx i hi; rw [hc, Nat.mul_one] at this; exact this)
  exact ⟨ns, h1, by rw [h2], h3⟩
/-- An array of texts that comes in. -/
theorem strs_of {P : Program} {n : Nat} {e : TypeId} (he : P.underlying e = some .string) (hc : P.cellsOf e = 1) : ∀ (m : Nat) (xs : List AV), xs.length = m → (∀ i, i < m → TyC P n e ((xs.drop i).take 1)) → ∃ ls : List (List UInt8), ls.length = m ∧ xs = ls.map .str
  | 0, xs, hl, _ => ⟨[], rfl, List.eq_nil_of_length_eq_zero hl⟩
  | m + 1, [], hl, _ => by simp at hl
  | m + 1, x :: xs, hl, h => by
    obtain ⟨ls, h1, h2⟩ := strs_of he hc m xs (by simpa using hl) (fun i hi => by simpa using h (i + 1) (by omega))
    obtain ⟨a, h4, _⟩ := tyc_str he (h 0 (by omega))
    simp at h4
    subst h4
    exact ⟨a :: ls, by simp [h1], by simp [h2]⟩
theorem ty_arr_strs {P : Program} {t e : TypeId} {m : Nat} {x : AV} (hu : P.underlying t = some (.array m e)) (he : P.underlying e = some .string) (hc : P.cellsOf e = 1) (hm : P.cellsOf t = m) (h : ArgTy P t x) : ∃ ls : List (List UInt8), ls.length = m ∧ x = .agg (ls.map .str) := by
  obtain ⟨n, xs, rfl, hl, hx⟩ := ty_arr hu h
  obtain ⟨ls, h1, h2⟩ := strs_of he hc m xs (hl.trans hm) (fun i hi => by have := hx i hi; rw [hc, Nat.mul_one] at this; exact this)
  exact ⟨ls, h1, by rw [h2]⟩
theorem list3 {α : Type} {xs : List α} (h : xs.length = 3) : ∃ a b c, xs = [a, b, c] := by
  match xs, h with
  | [a, b, c], _ => exact ⟨a, b, c, rfl⟩
theorem list2 {α : Type} {xs : List α} (h : xs.length = 2) : ∃ a b, xs = [a, b] := by
  match xs, h with
  | [a, b], _ => exact ⟨a, b, rfl⟩
theorem list4 {α : Type} {xs : List α} (h : xs.length = 4) : ∃ a b c d, xs = [a, b, c, d] := by
  match xs, h with
  | [a, b, c, d], _ => exact ⟨a, b, c, d, rfl⟩
/-- Arrays of arrays of numbers, and what words they are. -/
theorem ints_of' {P : Program} {e : TypeId} {k : IntKind} (he : P.underlying e = some (.int k)) : ∀ (m : Nat) (xs : List AV), xs.length = m → (∀ i, i < m → ∃ n, TyC P n e ((xs.drop i).take 1)) → ∃ ns : List Int, ns.length = m ∧ xs = ns.map (.int k) ∧ ∀ x ∈ ns, inK k x
  | 0, xs, hl, _ => ⟨[], rfl, List.eq_nil_of_length_eq_zero hl, fun _ h => by cases h⟩
  | m + 1, [], hl, _ => by simp at hl
  | m + 1, x :: xs, hl, h => by
    obtain ⟨ns, h1, h2, h3⟩ := ints_of' he m xs (by simpa using hl) (fun i hi => by simpa using h (i + 1) (by omega))
    obtain ⟨n, h0⟩ := h 0 (by omega)
    obtain ⟨a, h4, h5⟩ := tyc_int he h0
    simp at h4
    subst h4
    refine ⟨a :: ns, by simp [h1], by simp [h2], fun y hy => ?_⟩
    rcases List.mem_cons.1 hy with rfl | hy
    · exact h5
    · exact h3 y hy
theorem ty_arr2_ints {P : Program} {t e u : TypeId} {m n : Nat} {k : IntKind} {x : AV} (hu : P.underlying t = some (.array m e)) (he : P.underlying e = some (.array n u)) (hi : P.underlying u = some (.int k)) (hc : P.cellsOf u = 1) (hn : P.cellsOf e = n) (hm : P.cellsOf t = m * n) (h : ArgTy P t x) : ∃ ns : List Int, ns.length = m * n ∧ x = .agg (ns.map (.int k)) ∧ ∀ y ∈ ns, inK k y := by
  obtain ⟨d, xs, rfl, hl, hx⟩ := ty_arr hu h
  obtain ⟨ns, h1, h2, h3⟩ := ints_of' hi (m * n) xs (hl.trans hm) (fun i hin => by
    have h0 : 0 < n := Nat.pos_of_ne_zero fun e => by rw [e, Nat.mul_zero] at hin; omega
    have hq : i / n < m := Nat.div_lt_of_lt_mul (by rw [Nat.mul_comm]; exact hin)
    obtain ⟨d', _, hy⟩ := tyc_arr he (hx (i / n) hq)
    have := hy (i % n) (Nat.mod_lt _ h0)
    rw [hc, hn, Nat.mul_one, List.drop_take, List.take_take, List.drop_drop, Nat.mul_comm, Nat.div_add_mod] at this
    have hr := Nat.mod_lt i h0
    rw [show min 1 (n - i % n) = 1 by omega] at this
    exact ⟨d', this⟩)
  exact ⟨ns, h1, by rw [h2], h3⟩
theorem list8 {α : Type} {xs : List α} (h : xs.length = 8) : ∃ a b c d e f g i, xs = [a, b, c, d, e, f, g, i] := by
  match xs, h with
  | [a, b, c, d, e, f, g, i], _ => exact ⟨a, b, c, d, e, f, g, i, rfl⟩
end Go.Proofs.Ytbikpgaiocjnoaa.Pad
