/- A law, as it is asked. -/
import Derived.Test.YtbikpgaiocjnoaaE14
set_option linter.unusedVariables false
set_option linter.unusedSimpArgs false
namespace Go.Proofs.Ytbikpgaiocjnoaa.Pad
open Go.RowKit

def ArgTy (P : Program) (t : TypeId) (x : AV) : Prop := match P.underlying t with
  | some (.struct _) | some (.array _ _) => ∃ xs n, x = .agg xs ∧ TyC P n t xs
  | _ => ∃ n, TyC P n t [x]

section
variable {H : Type} {enc : TypeId × Value → H} {P : Program} {w : World}
theorem repL_single {F : Fp} {xs : List AV} {v : Value} (h : RepL w F true xs [v]) : ∃ x, xs = [x] ∧ x.one = true ∧ Rep w F x v := by
  have hl := repL_len h
  match xs, hl with
  | [x], _ =>
    simp only [RepL] at h
    obtain ⟨u, vs', e, h1, h2, _⟩ := h
    simp only [List.cons.injEq] at e
    obtain ⟨rfl, _⟩ := e
    exact ⟨x, rfl, by simpa using h1, h2⟩
theorem not_agg {base : Nat} {t : TypeId} {cs : Array Value} (h : Cell.okWide P w .any base t (.agg cs)) : False := by
  unfold Cell.okWide at h
  split at h <;> first | contradiction | skip
  unfold Cell.ok at h
  split at h <;> first | contradiction | exact h
theorem one_of {base : Nat} {t : TypeId} {v : Value} {xs : List AV} (hok : Cell.okWide P w .any base t v) (h1 : RepL w (Fall w) true xs v.cells.toList) : ∃ x, xs = [x] ∧ Rep w (Fall w) x v := by
  have : v.cells = #[v] := by
    cases v <;> first | rfl | exact (not_agg hok).elim
  rw [this] at h1
  obtain ⟨x, e, _, hr⟩ := repL_single h1
  exact ⟨x, e, hr⟩
theorem arg_repS {base : Nat} {t : TypeId} {v : Value} {d : DataW H} {p : List MemPlace} (S : List TypeId) (hok : Value.okWide P w .any base t v) (h : DataW.Trod enc P w 0 (fun _ => true) true t v d p) (hp : (plainL P S && S.contains t) = true) :
    ∃ x, Rep w (Fall w) x v ∧ ArgTy P t x := by
  rw [Bool.and_eq_true] at hp
  obtain ⟨n, hn⟩ := h
  obtain ⟨xs, h1, h2⟩ := rep_of_pl (Pl := (· ∈ S)) (plainL_1 hp.1) n t _ _ hn (by simpa using hp.2)
  unfold ArgTy
  unfold Value.okWide at hok
  revert hok
  split
  · rename_i fs hu
    rintro ⟨cs, rfl, _⟩
    rw [hu]
    exact ⟨.agg xs, by simp only [Rep]; exact ⟨cs, rfl, h1⟩, xs, n, rfl, h2⟩
  · rename_i k e hu
    rintro ⟨cs, rfl, _⟩
    rw [hu]
    exact ⟨.agg xs, by simp only [Rep]; exact ⟨cs, rfl, h1⟩, xs, n, rfl, h2⟩
  · rename_i hn1 hn2
    intro hok
    obtain ⟨x, rfl, hr⟩ := one_of hok h1
    refine ⟨x, hr, ?_⟩
    split
    · rename_i fs hu; exact (hn1 _ hu).elim
    · rename_i k e hu; exact (hn2 _ _ hu).elim
    · exact ⟨n, h2⟩
theorem arg_rep {base : Nat} {t : TypeId} {v : Value} {d : DataW H} {p : List MemPlace} (hok : Value.okWide P w .any base t v) (h : DataW.Trod enc P w 0 (fun _ => true) true t v d p) (hp : plainT P 9 t = true) :
    ∃ x, Rep w (Fall w) x v ∧ ArgTy P t x := by
  obtain ⟨n, hn⟩ := h
  obtain ⟨xs, h1, h2⟩ := rep_of_trod n t _ _ hn 9 hp
  unfold ArgTy
  unfold Value.okWide at hok
  revert hok
  split
  · rename_i fs hu
    rintro ⟨cs, rfl, _⟩
    rw [hu]
    exact ⟨.agg xs, by simp only [Rep]; exact ⟨cs, rfl, h1⟩, xs, n, rfl, h2⟩
  · rename_i k e hu
    rintro ⟨cs, rfl, _⟩
    rw [hu]
    exact ⟨.agg xs, by simp only [Rep]; exact ⟨cs, rfl, h1⟩, xs, n, rfl, h2⟩
  · rename_i hn1 hn2
    intro hok
    obtain ⟨x, rfl, hr⟩ := one_of hok h1
    refine ⟨x, hr, ?_⟩
    split
    · rename_i fs hu; exact (hn1 _ hu).elim
    · rename_i k e hu; exact (hn2 _ _ hu).elim
    · exact ⟨n, h2⟩

theorem repL_nil' {F : Fp} : RepL w F false [] [] := by simp only [RepL]
theorem repL_cons' {F : Fp} {x : AV} {v : Value} {xs : List AV} {vs : List Value} (h : Rep w F x v) (h' : RepL w F false xs vs) : RepL w F false (x :: xs) (v :: vs) := by
  simp only [RepL]; exact ⟨v, vs, rfl, (fun hf => by cases hf), h, h'⟩

theorem calls_of_pf [Globs P] {f : Nat} {args : List AV} {vs : Array Value} (h : PFx P f args (.bool true)) (hg : GlobOk P w (Fall w)) (hr : RepL w (Fall w) false args vs.toList) :
    Calls P f vs w fun e w' => e = .returned (.bool true) ∧ Below w.heap.size w w' := by
  have hl := repL_len hr
  simp only [Array.length_toList] at hl
  refine (h w (Fall w) (fun _ => NoFp) (fun _ => 0) vs ⟨hg, hl.symm, fun i x v hx hv => ?_, fun _ _ _ hn => hn.elim, fun _ _ _ _ _ hn => hn.elim, fun _ _ hb => hb, fun _ _ _ hn => hn.elim⟩).mono ?_
  · obtain ⟨hi, e⟩ := List.getElem?_eq_some_iff.1 hx
    obtain ⟨u, h1, _, h2⟩ := repL_get args vs.toList i hi hr
    have hv' : vs.toList[i]? = some v := by simpa using hv
    rw [h1] at hv'
    cases hv'
    rw [e] at h2
    obtain ⟨g1, g2⟩ := good_of_rep h2
    exact ⟨top_of_rep h2, okOwn_good (by rw [g1]; exact g2)⟩
  · rintro e w' ⟨v, F', O', nb, rfl, hp⟩
    have hv := hp.rep
    simp only [RepTop, Rep] at hv
    subst hv
    exact ⟨rfl, hp.chg.os, hp.chg.tape, hp.chg.output, hp.chg.size, fun k hk => hp.chg.same k hk (fun o ⟨i, hi⟩ => hi)⟩

theorem ty_int {t : TypeId} {k : IntKind} {x : AV} (hu : P.underlying t = some (.int k)) (h : ArgTy P t x) : ∃ n, x = .int k n ∧ inK k n := by
  unfold ArgTy at h; rw [hu] at h
  obtain ⟨n, h⟩ := h
  cases n with
  | zero => exact h.elim
  | succ n =>
    unfold TyC at h; rw [hu] at h
    obtain ⟨m, e, hm⟩ := h
    simp only [List.cons.injEq, and_true] at e
    exact ⟨m, e, hm⟩
theorem ty_str {t : TypeId} {x : AV} (hu : P.underlying t = some .string) (h : ArgTy P t x) : ∃ l, x = .str l ∧ l.length ≤ maxLen := by
  unfold ArgTy at h; rw [hu] at h
  obtain ⟨n, h⟩ := h
  cases n with
  | zero => exact h.elim
  | succ n =>
    unfold TyC at h; rw [hu] at h
    obtain ⟨m, e, hm⟩ := h
    simp only [List.cons.injEq, and_true] at e
    exact ⟨m, e, hm⟩
theorem ty_bool {t : TypeId} {x : AV} (hu : P.underlying t = some .bool) (h : ArgTy P t x) : ∃ b, x = .bool b := by
  unfold ArgTy at h; rw [hu] at h
  obtain ⟨n, h⟩ := h
  cases n with
  | zero => exact h.elim
  | succ n =>
    unfold TyC at h; rw [hu] at h
    obtain ⟨m, e⟩ := h
    simp only [List.cons.injEq, and_true] at e
    exact ⟨m, e⟩
theorem ty_sl {t e : TypeId} {x : AV} (hu : P.underlying t = some (.slice e)) (h : ArgTy P t x) : ∃ (n : Nat) (es : List (List AV)), x = .sl es.flatten es.length ∧ es.length ≤ maxLen ∧ ∀ y ∈ es, y.length = P.cellsOf e ∧ TyC P n e y := by
  unfold ArgTy at h; rw [hu] at h
  obtain ⟨n, h⟩ := h
  cases n with
  | zero => exact h.elim
  | succ n =>
    unfold TyC at h; rw [hu] at h
    obtain ⟨es, e1, e2, e3⟩ := h
    simp only [List.cons.injEq, and_true] at e1
    exact ⟨n, es, e1, e2, e3⟩
theorem tyc_int {n : Nat} {t : TypeId} {k : IntKind} {xs : List AV} (hu : P.underlying t = some (.int k)) (h : TyC P n t xs) : ∃ m, xs = [.int k m] ∧ inK k m := by
  cases n with
  | zero => exact h.elim
  | succ n => unfold TyC at h; rw [hu] at h; exact h
theorem tyc_str {n : Nat} {t : TypeId} {xs : List AV} (hu : P.underlying t = some .string) (h : TyC P n t xs) : ∃ l, xs = [.str l] ∧ l.length ≤ maxLen := by
  cases n with
  | zero => exact h.elim
  | succ n => unfold TyC at h; rw [hu] at h; exact h
theorem tyc_bool {n : Nat} {t : TypeId} {xs : List AV} (hu : P.underlying t = some .bool) (h : TyC P n t xs) : ∃ b, xs = [.bool b] := by
  cases n with
  | zero => exact h.elim
  | succ n => unfold TyC at h; rw [hu] at h; exact h
theorem tyc_arr {n m : Nat} {t e : TypeId} {xs : List AV} (hu : P.underlying t = some (.array m e)) (h : TyC P n t xs) : ∃ n', xs.length = P.cellsOf t ∧ ∀ i, i < m → TyC P n' e ((xs.drop (i * P.cellsOf e)).take (P.cellsOf e)) := by
  cases n with
  | zero => exact h.elim
  | succ n => unfold TyC at h; rw [hu] at h; exact ⟨n, h⟩
theorem tyc_struct {n : Nat} {t : TypeId} {fs : Array Field} {xs : List AV} (hu : P.underlying t = some (.struct fs)) (h : TyC P n t xs) : ∃ n', xs.length = P.cellsOf t ∧ ∀ f ∈ fs.toList, TyC P n' f.type ((xs.drop f.offset).take (P.cellsOf f.type)) := by
  cases n with
  | zero => exact h.elim
  | succ n => unfold TyC at h; rw [hu] at h; exact ⟨n, h⟩
theorem ty_arr {t e : TypeId} {m : Nat} {x : AV} (hu : P.underlying t = some (.array m e)) (h : ArgTy P t x) : ∃ n xs, x = .agg xs ∧ xs.length = P.cellsOf t ∧ ∀ i, i < m → TyC P n e ((xs.drop (i * P.cellsOf e)).take (P.cellsOf e)) := by
  unfold ArgTy at h; rw [hu] at h
  obtain ⟨xs, n, rfl, h⟩ := h
  obtain ⟨n', h1, h2⟩ := tyc_arr hu h
  exact ⟨n', xs, rfl, h1, h2⟩
theorem ty_struct {t : TypeId} {fs : Array Field} {x : AV} (hu : P.underlying t = some (.struct fs)) (h : ArgTy P t x) : ∃ n xs, x = .agg xs ∧ xs.length = P.cellsOf t ∧ ∀ f ∈ fs.toList, TyC P n f.type ((xs.drop f.offset).take (P.cellsOf f.type)) := by
  unfold ArgTy at h; rw [hu] at h
  obtain ⟨xs, n, rfl, h⟩ := h
  obtain ⟨n', h1, h2⟩ := tyc_struct hu h
  exact ⟨n', xs, rfl, h1, h2⟩
/-- Slices of things of one cell. -/
theorem ty_bytes {t e : TypeId} {x : AV} (hu : P.underlying t = some (.slice e)) (he : P.underlying e = some (.int .u8)) (h : ArgTy P t x) : ∃ l : List UInt8, x = .sl (bytesAV l) l.length := by
  obtain ⟨n, es, rfl, _, hy⟩ := ty_sl hu h
  have key : ∀ es : List (List AV), (∀ y ∈ es, y.length = P.cellsOf e ∧ TyC P n e y) → ∃ l : List UInt8, es.flatten = bytesAV l ∧ es.length = l.length := by
    intro es
    induction es with
    | nil => intro _; exact ⟨[], rfl, rfl⟩
    | cons y es ih =>
      intro hy
      obtain ⟨l, e1, e2⟩ := ih fun z hz => hy z (List.mem_cons_of_mem _ hz)
      obtain ⟨m, rfl, hm⟩ := tyc_int he (hy y (List.mem_cons_self ..)).2
      simp only [inK] at hm
      refine ⟨UInt8.ofNat m.toNat :: l, ?_, by simp [e2]⟩
      simp only [List.flatten_cons, e1, bytesAV, List.map_cons, List.singleton_append, List.cons.injEq, AV.int.injEq, true_and, and_true]
      rw [UInt8.toNat_ofNat']
      omega
  obtain ⟨l, e1, e2⟩ := key es hy
  exact ⟨l, by rw [e1, e2]⟩
theorem ty_strs {t e : TypeId} {x : AV} (hu : P.underlying t = some (.slice e)) (he : P.underlying e = some .string) (h : ArgTy P t x) : ∃ ls : List (List UInt8), x = .sl (ls.map .str) ls.length := by
  obtain ⟨n, es, rfl, _, hy⟩ := ty_sl hu h
  have key : ∀ es : List (List AV), (∀ y ∈ es, y.length = P.cellsOf e ∧ TyC P n e y) → ∃ ls : List (List UInt8), es.flatten = ls.map AV.str ∧ es.length = ls.length := by
    intro es
    induction es with
    | nil => intro _; exact ⟨[], rfl, rfl⟩
    | cons y es ih =>
      intro hy
      obtain ⟨l, e1, e2⟩ := ih fun z hz => hy z (List.mem_cons_of_mem _ hz)
      obtain ⟨m, rfl, _⟩ := tyc_str he (hy y (List.mem_cons_self ..)).2
      exact ⟨m :: l, by simp [e1], by simp [e2]⟩
  obtain ⟨l, e1, e2⟩ := key es hy
  exact ⟨l, by rw [e1, e2]⟩
theorem ty_ints {t e : TypeId} {k : IntKind} {x : AV} (hu : P.underlying t = some (.slice e)) (he : P.underlying e = some (.int k)) (h : ArgTy P t x) : ∃ ns : List Int, x = .sl (ns.map (.int k)) ns.length ∧ ∀ n ∈ ns, inK k n := by
  obtain ⟨n, es, rfl, _, hy⟩ := ty_sl hu h
  have key : ∀ es : List (List AV), (∀ y ∈ es, y.length = P.cellsOf e ∧ TyC P n e y) → ∃ ns : List Int, es.flatten = ns.map (AV.int k) ∧ es.length = ns.length ∧ ∀ n ∈ ns, inK k n := by
    intro es
    induction es with
    | nil => intro _; exact ⟨[], rfl, rfl, fun _ h => by cases h⟩
    | cons y es ih =>
      intro hy
      obtain ⟨l, e1, e2, e3⟩ := ih fun z hz => hy z (List.mem_cons_of_mem _ hz)
      obtain ⟨m, rfl, hm⟩ := tyc_int he (hy y (List.mem_cons_self ..)).2
      refine ⟨m :: l, by simp [e1], by simp [e2], fun q hq => ?_⟩
      rcases List.mem_cons.1 hq with rfl | hq
      · exact hm
      · exact e3 q hq
  obtain ⟨l, e1, e2, e3⟩ := key es hy
  exact ⟨l, by rw [e1, e2], e3⟩
end
end Go.Proofs.Ytbikpgaiocjnoaa.Pad
