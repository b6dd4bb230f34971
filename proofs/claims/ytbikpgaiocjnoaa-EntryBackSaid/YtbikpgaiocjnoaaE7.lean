/- Which operation it is. -/
import Derived.Test.YtbikpgaiocjnoaaE6
set_option linter.unusedVariables false
set_option linter.unusedSimpArgs false
namespace Go.Proofs.Ytbikpgaiocjnoaa.Pad
section
variable {P : Program} [Globs P] {op : Op}
theorem inv_mov {y : RV} (h : chkOp P op (.mov y) = true) : ∃ x, (op = .move x ∨ op = .assign x) ∧ chkV x y = true := by
  cases op <;> simp [chkOp] at h <;> exact ⟨_, by simp, h⟩
theorem inv_nilR {sz : Nat} (h : chkOp P op (.nilR sz) = true) : ∃ x, (op = .move x ∨ op = .assign x) ∧ chkV x (.c (.row sz [] 0)) = true := by
  cases op <;> simp [chkOp] at h <;> exact ⟨_, by simp, h⟩
theorem inv_steal {t : Nat} (h : chkOp P op (.steal t) = true) : ∃ x, (op = .move x ∨ op = .assign x) ∧ chkV x (.t t) = true := by
  cases op <;> simp [chkOp] at h <;> exact ⟨_, by simp, h⟩
theorem inv_pick {c' x' y' : RV} (h : chkOp P op (.pick c' x' y') = true) : ∃ c x y, op = .pick c x y ∧ chkV c c' = true ∧ chkV x x' = true ∧ chkV y y' = true := by
  cases op <;> simp [chkOp] at h <;> exact ⟨_, _, _, rfl, h.1.1, h.1.2, h.2⟩
theorem inv_bin {op' : BinOp} {ex : Bool} {x' y' : RV} (h : chkOp P op (.bin op' ex x' y') = true) : ∃ t x y u, op = .binOp op' t x y u ∧ chkV x x' = true ∧ chkV y y' = true := by
  cases op <;> simp [chkOp] at h
  obtain ⟨⟨rfl, h1⟩, h2⟩ := h
  exact ⟨_, _, _, _, rfl, h1, h2⟩
theorem inv_beq {ne : Bool} {sh : Option (List Sc)} {x' y' : RV} (h : chkOp P op (.beq ne sh x' y') = true) : ∃ t x y u, op = .binOp (if ne then .neq else .eql) t x y u ∧ eqTy P t sh = true ∧ chkV x x' = true ∧ chkV y y' = true := by
  cases op <;> simp [chkOp] at h
  rename_i o t x y u
  obtain ⟨⟨⟨h0, h1⟩, h2⟩, h3⟩ := h
  subst h0
  exact ⟨t, x, y, u, rfl, h1, h2, h3⟩
theorem inv_un {op' : UnOp} {x' : RV} (h : chkOp P op (.un op' x') = true) : ∃ t x, op = .unOp op' t x ∧ chkV x x' = true := by
  cases op <;> simp [chkOp] at h
  obtain ⟨rfl, h⟩ := h
  exact ⟨_, _, rfl, h⟩
theorem inv_conv {ex : Bool} {k : IntKind} {x' : RV} (h : chkOp P op (.conv ex k x') = true) : ∃ src dst x, op = .convert src dst x ∧ (P.underlying src).isSome = true ∧ intIs P dst k = true ∧ chkV x x' = true := by
  cases op <;> simp [chkOp] at h
  exact ⟨_, _, _, rfl, h.1.1, h.1.2, h.2⟩
theorem inv_b2s {x' : RV} (h : chkOp P op (.b2s x') = true) : ∃ src dst x, op = .convert src dst x ∧ u8sIs P src = true ∧ strIs P dst = true ∧ chkV x x' = true := by
  cases op <;> simp [chkOp] at h
  exact ⟨_, _, _, rfl, h.1.1, h.1.2, h.2⟩
theorem inv_s2b {x' : RV} (h : chkOp P op (.s2b x') = true) : ∃ src dst x, op = .convert src dst x ∧ strIs P src = true ∧ u8sIs P dst = true ∧ slIs P dst 1 = true ∧ chkV x x' = true := by
  cases op <;> simp [chkOp] at h
  exact ⟨_, _, _, rfl, h.1.1.1, h.1.1.2, h.1.2, h.2⟩
theorem inv_len {y : RV} {str : Bool} (h : chkOp P op (.len str y) = true) : ∃ x t, op = .call { callee := .builtin .len, args := #[x], argTypes := #[t] } ∧ (if str then strIs P t else isSl P t) = true ∧ chkV x y = true := by
  dsimp only [chkOp] at h
  split at h <;> simp_all
  exact ⟨_, _, ⟨rfl, rfl⟩, h⟩
theorem inv_sidx {x' i' : RV} (h : chkOp P op (.sidx x' i') = true) : ∃ t x i, op = .index t x i ∧ strIs P t = true ∧ chkV x x' = true ∧ chkV i i' = true := by
  cases op <;> simp [chkOp] at h
  exact ⟨_, _, _, rfl, h.1.1, h.1.2, h.2⟩
theorem inv_ssl {x' : RV} {lo' hi' : Option RV} (h : chkOp P op (.ssl x' lo' hi') = true) : ∃ t x lo hi, op = .slice t x lo hi none ∧ strIs P t = true ∧ chkV x x' = true ∧ chkO lo lo' = true ∧ chkO hi hi' = true := by
  dsimp only [chkOp] at h
  split at h <;> simp_all
  exact ⟨_, _, _, _, ⟨rfl, rfl, rfl, rfl⟩, h.1.1.1, h.1.1.2, h.1.2, h.2⟩
theorem inv_slsl {sz : Nat} {x' : RV} {lo' hi' : Option RV} (h : chkOp P op (.slsl sz x' lo' hi') = true) : ∃ t x lo hi, op = .slice t x lo hi none ∧ slIs P t sz = true ∧ chkV x x' = true ∧ chkO lo lo' = true ∧ chkO hi hi' = true := by
  dsimp only [chkOp] at h
  split at h <;> simp_all
  exact ⟨_, _, _, _, ⟨rfl, rfl, rfl, rfl⟩, h.1.1.1, h.1.1.2, h.1.2, h.2⟩
theorem inv_idxA {sz : Nat} {x' i' : RV} (h : chkOp P op (.idxA sz x' i') = true) : ∃ t x i, op = .indexAddr t x i ∧ slIs P t sz = true ∧ chkV x x' = true ∧ chkV i i' = true := by
  cases op <;> simp [chkOp] at h
  exact ⟨_, _, _, rfl, h.1.1, h.1.2, h.2⟩
theorem inv_fldP {off : Nat} {x' : RV} (h : chkOp P op (.fldP off x') = true) : ∃ s x f, op = .fieldAddr s x f ∧ fieldIs P s f off = true ∧ chkV x x' = true := by
  cases op <;> simp [chkOp] at h
  exact ⟨_, _, _, rfl, h.1, h.2⟩
theorem inv_fldB {t off : Nat} (h : chkOp P op (.fldB t off) = true) : ∃ s x f, op = .fieldAddr s x f ∧ fieldIs P s f off = true ∧ chkV x (.t t) = true := by
  cases op <;> simp [chkOp] at h
  exact ⟨_, _, _, rfl, h.1, h.2⟩
theorem inv_nck {x' b : Nat} (h : chkOp P op (.nck x' b) = true) : ∃ x, op = .nilCheck x ∧ chkV x (.t x') = true := by
  cases op <;> simp [chkOp] at h
  exact ⟨_, rfl, h⟩
theorem inv_fldO {t off : Nat} (h : chkOp P op (.fldO t off) = true) : ∃ s x f, op = .fieldAddr s x f ∧ fieldIs P s f off = true ∧ chkV x (.t t) = true := by
  cases op <;> simp [chkOp] at h
  exact ⟨_, _, _, rfl, h.1, h.2⟩
theorem inv_allocO {zs : List AV} (h : chkOp P op (.allocO zs) = true) : ∃ t, op = .alloc t ∧ zeroIs P t zs = true := by
  cases op <;> simp [chkOp] at h
  exact ⟨_, rfl, h⟩
theorem inv_loadO {t' n : Nat} {agg : Bool} (h : chkOp P op (.loadO t' n agg) = true) : ∃ t x, op = .load t x ∧ szIs P t n = true ∧ aggIs P t agg = true ∧ chkV x (.t t') = true := by
  cases op <;> simp [chkOp] at h
  exact ⟨_, _, rfl, h.1.1, h.1.2, h.2⟩
theorem inv_loadRO {t' b n : Nat} {agg : Bool} (h : chkOp P op (.loadRO t' b n agg) = true) : ∃ t x, op = .load t x ∧ szIs P t n = true ∧ aggIs P t agg = true ∧ chkV x (.t t') = true := by
  cases op <;> simp [chkOp] at h
  exact ⟨_, _, rfl, h.1.1, h.1.2, h.2⟩
theorem inv_stO {t' n : Nat} {y' : RV} (h : chkOp P op (.stO t' n y') = true) : ∃ t x y, op = .store t x y ∧ szIs P t n = true ∧ chkV x (.t t') = true ∧ chkV y y' = true := by
  cases op <;> simp [chkOp] at h
  exact ⟨_, _, _, rfl, h.1.1, h.1.2, h.2⟩
theorem inv_stRO {t' b n : Nat} {y' : RV} (h : chkOp P op (.stRO t' b n y') = true) : ∃ t x y, op = .store t x y ∧ szIs P t n = true ∧ chkV x (.t t') = true ∧ chkV y y' = true := by
  cases op <;> simp [chkOp] at h
  exact ⟨_, _, _, rfl, h.1.1, h.1.2, h.2⟩
theorem inv_takeO {x' b : Nat} (h : chkOp P op (.takeO x' b) = true) : ∃ t x, op = .load t x ∧ szIs P t 1 = true ∧ aggIs P t false = true ∧ chkV x (.t x') = true := by
  cases op <;> simp [chkOp] at h
  exact ⟨_, _, rfl, h.1.1, h.1.2, h.2⟩
theorem inv_putO {x' b t' : Nat} (h : chkOp P op (.putO x' b t') = true) : ∃ t x y, op = .store t x y ∧ szIs P t 1 = true ∧ chkV x (.t x') = true ∧ chkV y (.t t') = true := by
  cases op <;> simp [chkOp] at h
  exact ⟨_, _, _, rfl, h.1.1, h.1.2, h.2⟩
theorem inv_mkI {t : Nat} {x' : RV} (h : chkOp P op (.mkI t x') = true) : ∃ x, op = .makeInterface t x ∧ concIs P t = true ∧ chkV x x' = true := by
  cases op <;> simp [chkOp] at h
  obtain ⟨⟨rfl, h1⟩, h2⟩ := h
  exact ⟨_, rfl, h1, h2⟩
theorem inv_isNil {p ne : Bool} {x' : RV} (h : chkOp P op (.isNil p ne x') = true) : ∃ t x y u, op = .binOp (if ne then .neq else .eql) t x y u ∧ nilOf P t p y = true ∧ chkV x x' = true := by
  cases op <;> simp [chkOp] at h
  obtain ⟨⟨rfl, h1⟩, h2⟩ := h
  exact ⟨_, _, _, _, rfl, h1, h2⟩
theorem inv_isNilS {ne : Bool} {x' : RV} (h : chkOp P op (.isNilS ne x') = true) : ∃ t x u e, op = .binOp (if ne then .neq else .eql) t x (.const (.slice none 0 0)) u ∧ P.underlying t = some (.slice e) ∧ chkV x x' = true := by
  cases op <;> simp [chkOp] at h
  rename_i op t x y u
  obtain ⟨⟨⟨rfl, h1⟩, h3⟩, h2⟩ := h
  split at h3
  · unfold isSl at h1
    split at h1
    · exact ⟨_, _, _, _, rfl, by assumption, h2⟩
    · cases h1
  · cases h3
theorem inv_callL {f' : Nat} {as : List (Option (Nat × Nat) × RV)} (h : chkOp P op (.callL f' as) = true) : ∃ args ts fn, op = .call { callee := .value (.func f'), args := args, argTypes := ts } ∧ chkLs args.toList as = true ∧ f' < inPlace ∧ P.funcs[f']? = some fn ∧ fn.body.isSome = true ∧ (fn.name == "runtime.NumGoroutine") = false := by
  dsimp only [chkOp] at h
  split at h
  · simp only [Bool.and_eq_true, beq_iff_eq, decide_eq_true_eq] at h
    obtain ⟨⟨⟨rfl, h1⟩, h2⟩, h3⟩ := h
    split at h3
    · simp only [Bool.and_eq_true, bne_iff_ne, ne_eq] at h3
      exact ⟨_, _, _, rfl, h2, h1, by assumption, h3.1, by simpa using h3.2⟩
    · cases h3
  · cases h
theorem inv_asI {t : Nat} {ok : Bool} {z : AV} {x' : RV} (h : chkOp P op (.asI t ok z x') = true) : ∃ x u, op = .typeAssert x u t ok ∧ concIs P t = true ∧ zero1 P t z = true ∧ chkV x x' = true := by
  cases op <;> simp [chkOp] at h
  obtain ⟨⟨⟨⟨rfl, rfl⟩, h1⟩, h2⟩, h3⟩ := h
  exact ⟨_, _, rfl, h1, h2, h3⟩
theorem inv_fldR {x' b off : Nat} (h : chkOp P op (.fldR x' b off) = true) : ∃ s x f, op = .fieldAddr s x f ∧ fieldIs P s f off = true ∧ chkV x (.t x') = true := by
  cases op <;> simp [chkOp] at h
  exact ⟨_, _, _, rfl, h.1, h.2⟩
theorem inv_idxG {g sz n : Nat} {xs : List AV} {i' : RV} (h : chkOp P op (.idxG g sz n xs i') = true) : ∃ t i, op = .indexAddr t (.global g) i ∧ arrIs P t n sz = true ∧ globIs P g xs = true ∧ chkV i i' = true := by
  cases op <;> try (simp [chkOp] at h; done)
  rename_i t x i
  cases x <;> simp [chkOp] at h
  obtain ⟨⟨⟨rfl, h1⟩, h2⟩, h3⟩ := h
  exact ⟨_, _, rfl, h1, h2, h3⟩
theorem inv_loadG {g n : Nat} {agg : Bool} {xs : List AV} (h : chkOp P op (.loadG g n agg xs) = true) : ∃ t, op = .load t (.global g) ∧ szIs P t n = true ∧ aggIs P t agg = true ∧ globIs P g xs = true := by
  cases op <;> try (simp [chkOp] at h; done)
  rename_i t x
  cases x <;> simp [chkOp] at h
  obtain ⟨⟨⟨rfl, h1⟩, h2⟩, h3⟩ := h
  exact ⟨_, rfl, h1, h2, h3⟩
theorem inv_s2aR {x' b sz n : Nat} (h : chkOp P op (.s2aR x' b sz n) = true) : ∃ t x, op = .sliceToArrayPointer t x ∧ arrIs P t n sz = true ∧ chkV x (.t x') = true := by
  cases op <;> simp [chkOp] at h
  exact ⟨_, _, rfl, h.1, h.2⟩
theorem inv_s2aP {n : Nat} {x' : RV} (h : chkOp P op (.s2aP n x') = true) : ∃ t e x, op = .sliceToArrayPointer t x ∧ P.underlying t = some (.array n e) ∧ chkV x x' = true := by
  cases op <;> simp only [chkOp, Bool.and_eq_true, Bool.false_eq_true] at h
  obtain ⟨h1, h2⟩ := h
  split at h1
  · rename_i m e he
    simp only [beq_iff_eq] at h1
    subst h1
    exact ⟨_, _, _, rfl, he, h2⟩
  · cases h1
theorem inv_mkF {f' : Nat} {as bs : List RV} (h : chkOp P op (.mkF f' as bs) = true) : ∃ first captured, op = .makeFunc (.func f') first captured ∧ chkVals first.toList as = true ∧ chkVals captured.toList bs = true := by
  dsimp only [chkOp] at h
  split at h <;> first | (simp at h; done) | skip
  all_goals first | contradiction | skip
  simp only [Bool.and_eq_true, beq_iff_eq] at h
  obtain ⟨⟨rfl, h1⟩, h2⟩ := h
  exact ⟨_, _, rfl, h1, h2⟩
theorem inv_callF {x' : RV} {as : List RV} {fs : List Nat} (h : chkOp P op (.callF x' as fs) = true) : ∃ x args ts, op = .call { callee := .value x, args := args, argTypes := ts } ∧ chkV x x' = true ∧ chkVals args.toList as = true ∧ ∀ f ∈ fs, mayCall P f = true := by
  dsimp only [chkOp] at h
  split at h <;> first | (simp at h; done) | skip
  all_goals first | contradiction | skip
  simp only [Bool.and_eq_true, List.all_eq_true] at h
  exact ⟨_, _, _, rfl, h.1.1, h.1.2, h.2⟩
theorem inv_idxR {x' b sz n : Nat} {i' : RV} (h : chkOp P op (.idxR x' b sz n i') = true) : ∃ t x i, op = .indexAddr t x i ∧ arrIs P t n sz = true ∧ chkV x (.t x') = true ∧ chkV i i' = true := by
  cases op <;> simp [chkOp] at h
  exact ⟨_, _, _, rfl, h.1.1, h.1.2, h.2⟩
theorem inv_idxB {t' sz n : Nat} {i' : RV} (h : chkOp P op (.idxB t' sz n i') = true) : ∃ t x i, op = .indexAddr t x i ∧ arrIs P t n sz = true ∧ chkV x (.t t') = true ∧ chkV i i' = true := by
  cases op <;> simp [chkOp] at h
  exact ⟨_, _, _, rfl, h.1.1, h.1.2, h.2⟩
theorem inv_loadP {x' : RV} {n : Nat} {agg : Bool} (h : chkOp P op (.loadP x' n agg) = true) : ∃ t x, op = .load t x ∧ szIs P t n = true ∧ aggIs P t agg = true ∧ chkV x x' = true := by
  cases op <;> simp [chkOp] at h
  exact ⟨_, _, rfl, h.1.1, h.1.2, h.2⟩
theorem inv_loadB {t' n : Nat} {agg : Bool} (h : chkOp P op (.loadB t' n agg) = true) : ∃ t x, op = .load t x ∧ szIs P t n = true ∧ aggIs P t agg = true ∧ chkV x (.t t') = true := by
  cases op <;> simp [chkOp] at h
  exact ⟨_, _, rfl, h.1.1, h.1.2, h.2⟩
theorem inv_loadR {t' b n : Nat} {agg : Bool} (h : chkOp P op (.loadR t' b n agg) = true) : ∃ t x, op = .load t x ∧ szIs P t n = true ∧ aggIs P t agg = true ∧ chkV x (.t t') = true := by
  cases op <;> simp [chkOp] at h
  exact ⟨_, _, rfl, h.1.1, h.1.2, h.2⟩
theorem inv_stB {t' n : Nat} {y' : RV} (h : chkOp P op (.stB t' n y') = true) : ∃ t x y, op = .store t x y ∧ szIs P t n = true ∧ chkV x (.t t') = true ∧ chkV y y' = true := by
  cases op <;> simp [chkOp] at h
  exact ⟨_, _, _, rfl, h.1.1, h.1.2, h.2⟩
theorem inv_stR {t' b n : Nat} {y' : RV} (h : chkOp P op (.stR t' b n y') = true) : ∃ t x y, op = .store t x y ∧ szIs P t n = true ∧ chkV x (.t t') = true ∧ chkV y y' = true := by
  cases op <;> simp [chkOp] at h
  exact ⟨_, _, _, rfl, h.1.1, h.1.2, h.2⟩
theorem inv_box {x' : RV} (h : chkOp P op (.box x') = true) : ∃ t x, op = .box t x ∧ chkV x x' = true := by
  cases op <;> simp [chkOp] at h
  exact ⟨_, _, rfl, h⟩
theorem inv_alloc {zs : List AV} (h : chkOp P op (.alloc zs) = true) : ∃ t, op = .alloc t ∧ zeroIs P t zs = true := by
  cases op <;> simp [chkOp] at h
  exact ⟨_, rfl, h⟩
theorem inv_fld {off n : Nat} {agg : Bool} {x' : RV} (h : chkOp P op (.fld off n agg x') = true) : ∃ s x f, op = .field s x f ∧ fieldTy P s f off n agg = true ∧ chkV x x' = true := by
  cases op <;> simp [chkOp] at h
  exact ⟨_, _, _, rfl, h.1, h.2⟩
theorem inv_aidx {sz len : Nat} {agg : Bool} {x' i' : RV} (h : chkOp P op (.aidx sz len agg x' i') = true) : ∃ t x i e, op = .index t x i ∧ P.underlying t = some (.array len e) ∧ szIs P e sz = true ∧ aggIs P e agg = true ∧ chkV x x' = true ∧ chkV i i' = true := by
  cases op <;> simp [chkOp] at h
  rename_i t x i
  obtain ⟨⟨h1, h2⟩, h3⟩ := h
  split at h1
  · rename_i m e he
    simp at h1
    obtain ⟨⟨rfl, h4⟩, h5⟩ := h1
    exact ⟨_, _, _, e, rfl, he, h4, h5, h2, h3⟩
  · cases h1
theorem inv_build {zs : List AV} {ps : List (Nat × Nat × RV)} (h : chkOp P op (.build zs ps) = true) : ∃ t parts, op = .build t parts ∧ zeroIs P t zs = true ∧
    ((∃ fields, P.underlying t = some (.struct fields) ∧ chkParts (fieldPl P fields) parts.toList ps = true ∧ (fields.all fun f => (P.info? f.type).isSome) = true) ∨
     ∃ n e j, P.underlying t = some (.array n e) ∧ P.info? e = some j ∧ chkParts (fun i => some (i * j.size, j.size)) parts.toList ps = true) := by
  cases op <;> simp only [chkOp, Bool.and_eq_true, Bool.false_eq_true] at h
  rename_i t parts
  obtain ⟨h1, h2⟩ := h
  refine ⟨t, parts, rfl, h1, ?_⟩
  split at h2
  · rename_i fields hf
    simp only [Bool.and_eq_true] at h2
    exact .inl ⟨fields, hf, h2.1, h2.2⟩
  · rename_i n e he
    split at h2
    · rename_i j hj; exact .inr ⟨n, e, j, he, hj, h2⟩
    · cases h2
  · cases h2
theorem inv_mkSl {sz n : Nat} {zs : List AV} {ps : List (Nat × Nat × RV)} (h : chkOp P op (.mkSl sz n zs ps) = true) : ∃ t parts e j z, op = .buildSlice t n parts ∧ n * sz ≤ 16777216 ∧ P.underlying t = some (.slice e) ∧ P.info? e = some j ∧ j.size = sz ∧ j.zero = some z ∧
    chkParts (fun i => some (i * sz, sz)) parts.toList ps = true ∧ cAVs zs ((Array.range (n * sz)).map (z.cells[· % z.cells.size]!)).toList = true ∧ 0 < sz := by
  cases op <;> simp only [chkOp, Bool.and_eq_true, Bool.false_eq_true] at h
  rename_i t len parts
  obtain ⟨⟨h1, h2⟩, h3⟩ := h
  simp only [beq_iff_eq] at h1
  subst h1
  split at h3
  · rename_i e he
    simp only [Bool.and_eq_true] at h3
    obtain ⟨⟨h4, h5⟩, h6⟩ := h3
    obtain ⟨i, hi, hsz⟩ := szIs_iff h4
    rw [hi] at h6
    simp only at h6
    split at h6
    · rename_i z hz
      simp only [Bool.and_eq_true, decide_eq_true_eq] at h6
      exact ⟨t, parts, e, i, z, rfl, by simpa using h2, he, hi, hsz, hz, h5, h6.1, h6.2⟩
    · cases h6
  · cases h3
theorem inv_mkSlM {sz n : Nat} {zs : List AV} {ps : List (Nat × Nat × RV)} (h : chkOp P op (.mkSlM sz n zs ps) = true) : ∃ t parts e j z, op = .buildSlice t n parts ∧ n * sz ≤ 16777216 ∧ P.underlying t = some (.slice e) ∧ P.info? e = some j ∧ j.size = sz ∧ j.zero = some z ∧
    chkParts (fun i => some (i * sz, sz)) parts.toList ps = true ∧ cAVs zs ((Array.range (n * sz)).map (z.cells[· % z.cells.size]!)).toList = true ∧ 0 < sz := inv_mkSl (show chkOp P op (.mkSl sz n zs ps) = true from h)
theorem inv_app {sz bytes : Nat} {b y' : RV} (h : chkOp P op (.app sz bytes b y') = true) : ∃ x y t u e i z d, op = .call { callee := .builtin .append, args := #[x, y], argTypes := #[t, u] } ∧ 0 < sz ∧ chkV x b = true ∧ chkV y y' = true ∧
    P.underlying t = some (.slice e) ∧ P.underlying u = some d ∧ (d = .string ∨ ∃ e', d = .slice e') ∧ P.info? e = some i ∧ i.size = sz ∧ i.bytes = bytes ∧ i.zero = some z ∧ z.cells.size = sz := by
  dsimp only [chkOp] at h
  split at h <;> first | (simp at h; done) | skip
  all_goals first | contradiction | skip
  rename_i x y t u
  simp only [Bool.and_eq_true, decide_eq_true_eq] at h
  obtain ⟨⟨⟨⟨h1, h2⟩, h3⟩, h4⟩, h5⟩ := h
  split at h5
  · rename_i e he
    simp only [Bool.and_eq_true] at h5
    obtain ⟨⟨h6, h7⟩, h8⟩ := h5
    obtain ⟨i, hi, hsz⟩ := szIs_iff h6
    obtain ⟨i', hi', hby⟩ := bytesIs_iff h7
    rw [hi] at hi' h8
    cases hi'
    simp only at h8
    split at h8
    · rename_i z hz
      have hd : ∃ d, P.underlying u = some d ∧ (d = .string ∨ ∃ e', d = .slice e') := by
        simp only [Bool.or_eq_true] at h4
        rcases h4 with h4 | h4
        · exact ⟨_, strIs_iff h4, .inl rfl⟩
        · obtain ⟨e', he'⟩ := isSl_iff h4; exact ⟨_, he', .inr ⟨e', rfl⟩⟩
      obtain ⟨d, hd1, hd2⟩ := hd
      exact ⟨x, y, t, u, e, i, z, d, rfl, h1, h2, h3, he, hd1, hd2, hi, hsz, hby, hz, by simpa using h8⟩
    · cases h8
  · cases h5
theorem inv_appM {sz bytes b : Nat} {y' : RV} (h : chkOp P op (.appM sz bytes b y') = true) : ∃ x y t u e i z d, op = .call { callee := .builtin .append, args := #[x, y], argTypes := #[t, u] } ∧ 0 < sz ∧ chkV x (.t b) = true ∧ chkV y y' = true ∧
    P.underlying t = some (.slice e) ∧ P.underlying u = some d ∧ (d = .string ∨ ∃ e', d = .slice e') ∧ P.info? e = some i ∧ i.size = sz ∧ i.bytes = bytes ∧ i.zero = some z ∧ z.cells.size = sz := by
  dsimp only [chkOp] at h
  split at h <;> first | (simp at h; done) | skip
  all_goals first | contradiction | skip
  rename_i x y t u
  simp only [Bool.and_eq_true, decide_eq_true_eq] at h
  obtain ⟨⟨⟨⟨h1, h2⟩, h3⟩, h4⟩, h5⟩ := h
  split at h5
  · rename_i e he
    simp only [Bool.and_eq_true] at h5
    obtain ⟨⟨h6, h7⟩, h8⟩ := h5
    obtain ⟨i, hi, hsz⟩ := szIs_iff h6
    obtain ⟨i', hi', hby⟩ := bytesIs_iff h7
    rw [hi] at hi' h8
    cases hi'
    simp only at h8
    split at h8
    · rename_i z hz
      have hd : ∃ d, P.underlying u = some d ∧ (d = .string ∨ ∃ e', d = .slice e') := by
        simp only [Bool.or_eq_true] at h4
        rcases h4 with h4 | h4
        · exact ⟨_, strIs_iff h4, .inl rfl⟩
        · obtain ⟨e', he'⟩ := isSl_iff h4; exact ⟨_, he', .inr ⟨e', rfl⟩⟩
      obtain ⟨d, hd1, hd2⟩ := hd
      exact ⟨x, y, t, u, e, i, z, d, rfl, h1, h2, h3, he, hd1, hd2, hi, hsz, hby, hz, by simpa using h8⟩
    · cases h8
  · cases h5
theorem inv_make {sz bytes : Nat} {zs : List AV} {l' c' : RV} (h : chkOp P op (.make sz bytes zs l' c') = true) : ∃ t l c e i z, op = .makeSlice t l c ∧ 0 < sz ∧ chkV l l' = true ∧ chkV c c' = true ∧ zs.length = sz ∧
    P.underlying t = some (.slice e) ∧ P.info? e = some i ∧ i.size = sz ∧ i.bytes = bytes ∧ i.zero = some z ∧ cAVs zs z.cells.toList = true := by
  cases op <;> simp only [chkOp, Bool.and_eq_true, Bool.false_eq_true, decide_eq_true_eq, beq_iff_eq] at h
  rename_i t l c
  obtain ⟨⟨⟨⟨h1, h2⟩, h3⟩, h4⟩, h5⟩ := h
  split at h5
  · rename_i e he
    simp only [Bool.and_eq_true] at h5
    obtain ⟨⟨h6, h7⟩, h8⟩ := h5
    obtain ⟨i, hi, hsz⟩ := szIs_iff h6
    obtain ⟨i', hi', hby⟩ := bytesIs_iff h7
    obtain ⟨i'', z, hi'', hz, hc⟩ := zeroIs_iff h8
    rw [hi] at hi' hi''
    cases hi'; cases hi''
    exact ⟨t, l, c, e, i, z, rfl, h1, h2, h3, h4, he, hi, hsz, hby, hz, hc⟩
  · cases h5
theorem inv_mm {mx : Bool} {x' y' : RV} (h : chkOp P op (.mm mx x' y') = true) : ∃ x y ts, op = .call { callee := .builtin (if mx then .max else .min), args := #[x, y], argTypes := ts } ∧ chkV x x' = true ∧ chkV y y' = true := by
  dsimp only [chkOp] at h
  split at h <;> first | (simp at h; done) | skip
  all_goals first | contradiction | skip
  all_goals
    simp only [Bool.and_eq_true, Bool.not_eq_true'] at h
    obtain ⟨⟨rfl, h1⟩, h2⟩ := h
    exact ⟨_, _, _, rfl, h1, h2⟩
theorem inv_s2bM {x' : RV} (h : chkOp P op (.s2bM x') = true) : ∃ src dst x, op = .convert src dst x ∧ strIs P src = true ∧ u8sIs P dst = true ∧ slIs P dst 1 = true ∧ chkV x x' = true := by
  cases op <;> simp [chkOp] at h
  exact ⟨_, _, _, rfl, h.1.1.1, h.1.1.2, h.1.2, h.2⟩
theorem inv_al {t : Nat} (h : chkOp P op (.al t) = true) : ∃ x, (op = .move x ∨ op = .assign x) ∧ chkV x (.t t) = true := by
  cases op <;> simp [chkOp] at h <;> exact ⟨_, by simp, h⟩
theorem inv_mvW {x' b : Nat} (h : chkOp P op (.mvW x' b) = true) : ∃ x, (op = .move x ∨ op = .assign x) ∧ chkV x (.t x') = true := by
  cases op <;> simp [chkOp] at h <;> exact ⟨_, by simp, h⟩
theorem inv_wnV {x' b sz : Nat} (h : chkOp P op (.wnV x' b sz) = true) : ∃ x, (op = .move x ∨ op = .assign x) ∧ chkV x (.t x') = true := by
  cases op <;> simp [chkOp] at h <;> exact ⟨_, by simp, h⟩
theorem inv_mkC {f' b : Nat} (h : chkOp P op (.mkC f' b) = true) : ∃ x, op = .makeFunc (.func f') #[] #[x] ∧ chkV x (.t b) = true := by
  dsimp only [chkOp] at h
  split at h <;> first | (simp at h; done) | skip
  all_goals first | contradiction | skip
  simp only [Bool.and_eq_true, beq_iff_eq] at h
  obtain ⟨rfl, h1⟩ := h
  exact ⟨_, rfl, h1⟩
theorem inv_callC {x' b : Nat} {as : List RV} {fs : List Nat} (h : chkOp P op (.callC x' b as fs) = true) : ∃ x args ts, op = .call { callee := .value x, args := args, argTypes := ts } ∧ chkV x (.t x') = true ∧ chkVals args.toList as = true ∧ ∀ f ∈ fs, mayCallB P f = true := by
  dsimp only [chkOp] at h
  split at h <;> first | (simp at h; done) | skip
  all_goals first | contradiction | skip
  simp only [Bool.and_eq_true, List.all_eq_true] at h
  exact ⟨_, _, _, rfl, h.1.1, h.1.2, h.2⟩
theorem inv_winR {x' b sz n : Nat} {lo' hi' : Option RV} (h : chkOp P op (.winR x' b sz n lo' hi') = true) : ∃ ty x lo hi, op = .slice ty x lo hi none ∧ arrIs P ty n sz = true ∧ n ≤ 1000000 ∧ chkV x (.t x') = true ∧ chkO lo lo' = true ∧ chkO hi hi' = true := by
  dsimp only [chkOp] at h
  split at h <;> simp_all
  exact ⟨_, _, _, _, ⟨rfl, rfl, rfl, rfl⟩, h.1.1.1.1, h.1.1.2, h.1.2, h.2⟩
theorem inv_frz {t : Nat} (h : chkOp P op (.frz t) = true) : ∃ x, (op = .move x ∨ op = .assign x) ∧ chkV x (.t t) = true := by
  cases op <;> simp [chkOp] at h <;> exact ⟨_, by simp, h⟩
theorem inv_stealM {t : Nat} (h : chkOp P op (.stealM t) = true) : ∃ x, (op = .move x ∨ op = .assign x) ∧ chkV x (.t t) = true := by
  cases op <;> simp [chkOp] at h <;> exact ⟨_, by simp, h⟩
theorem inv_idxM {x' b sz : Nat} {i' : RV} (h : chkOp P op (.idxM x' b sz i') = true) : ∃ t x i, op = .indexAddr t x i ∧ slIs P t sz = true ∧ chkV x (.t x') = true ∧ chkV i i' = true := by
  cases op <;> simp [chkOp] at h
  exact ⟨_, _, _, rfl, h.1.1, h.1.2, h.2⟩
theorem inv_lenM {x' b : Nat} (h : chkOp P op (.lenM x' b) = true) : ∃ x t, op = .call { callee := .builtin .len, args := #[x], argTypes := #[t] } ∧ isSl P t = true ∧ chkV x (.t x') = true := by
  dsimp only [chkOp] at h
  split at h <;> simp_all
  exact ⟨_, _, ⟨rfl, rfl⟩, h⟩
theorem inv_b2sM {x' b : Nat} (h : chkOp P op (.b2sM x' b) = true) : ∃ src dst x, op = .convert src dst x ∧ u8sIs P src = true ∧ strIs P dst = true ∧ chkV x (.t x') = true := by
  cases op <;> simp [chkOp] at h
  exact ⟨_, _, _, rfl, h.1.1, h.1.2, h.2⟩
theorem inv_makeM {sz bytes : Nat} {zs : List AV} {l' c' : RV} (h : chkOp P op (.makeM sz bytes zs l' c') = true) : ∃ t l c e i z, op = .makeSlice t l c ∧ 0 < sz ∧ chkV l l' = true ∧ chkV c c' = true ∧ zs.length = sz ∧
    P.underlying t = some (.slice e) ∧ P.info? e = some i ∧ i.size = sz ∧ i.bytes = bytes ∧ i.zero = some z ∧ cAVs zs z.cells.toList = true := by
  cases op <;> simp only [chkOp, Bool.and_eq_true, Bool.false_eq_true, decide_eq_true_eq, beq_iff_eq] at h
  rename_i t l c
  obtain ⟨⟨⟨⟨h1, h2⟩, h3⟩, h4⟩, h5⟩ := h
  split at h5
  · rename_i e he
    simp only [Bool.and_eq_true] at h5
    obtain ⟨⟨h6, h7⟩, h8⟩ := h5
    obtain ⟨i, hi, hsz⟩ := szIs_iff h6
    obtain ⟨i', hi', hby⟩ := bytesIs_iff h7
    obtain ⟨i'', z, hi'', hz, hc⟩ := zeroIs_iff h8
    rw [hi] at hi' hi''
    cases hi'; cases hi''
    exact ⟨t, l, c, e, i, z, rfl, h1, h2, h3, h4, he, hi, hsz, hby, hz, hc⟩
  · cases h5
theorem inv_rng {x' : RV} (h : chkOp P op (.rng x') = true) : ∃ t x, op = .range t x ∧ strIs P t = true ∧ chkV x x' = true := by
  cases op <;> simp [chkOp] at h
  exact ⟨_, _, rfl, h.1, h.2⟩
theorem inv_nxt {t : Nat} (h : chkOp P op (.nxt t) = true) : ∃ x, op = .next x true ∧ chkV x (.t t) = true := by
  dsimp only [chkOp] at h
  split at h <;> first | (simp at h; done) | skip
  all_goals first | contradiction | skip
  exact ⟨_, rfl, h⟩
theorem inv_extO {t' i' : Nat} (h : chkOp P op (.extO t' i') = true) : ∃ x, op = .extract x i' ∧ chkV x (.t t') = true := by
  cases op <;> simp [chkOp] at h
  obtain ⟨h1, rfl⟩ := h
  exact ⟨_, rfl, h1⟩
theorem inv_ext {x' : RV} {i' : Nat} (h : chkOp P op (.ext x' i') = true) : ∃ x, op = .extract x i' ∧ chkV x x' = true := by
  cases op <;> simp [chkOp] at h
  obtain ⟨h1, rfl⟩ := h
  exact ⟨_, rfl, h1⟩
theorem inv_call {f' : Nat} {as : List (Bool × RV)} (h : chkOp P op (.call f' as) = true) : ∃ args ts fn, op = .call { callee := .value (.func f'), args := args, argTypes := ts } ∧ chkArgsC args.toList as = true ∧ f' < inPlace ∧ P.funcs[f']? = some fn ∧ fn.body.isSome = true ∧ (fn.name == "runtime.NumGoroutine") = false := by
  dsimp only [chkOp] at h
  split at h <;> first | (simp at h; done) | skip
  all_goals first | contradiction | skip
  simp only [Bool.and_eq_true, beq_iff_eq] at h
  obtain ⟨⟨⟨rfl, h1⟩, h2⟩, h3⟩ := h
  split at h3
  · rename_i fn hfn
    simp only [Bool.and_eq_true] at h3
    exact ⟨_, _, fn, rfl, h2, of_decide_eq_true h1, hfn, h3.1, by simpa using h3.2⟩
  · cases h3
theorem inv_callB {f' b : Nat} {as : List (Bool × RV)} (h : chkOp P op (.callB f' as b) = true) : ∃ args ts fn, op = .call { callee := .value (.func f'), args := args, argTypes := ts } ∧ chkArgs args.toList as = true ∧ P.funcs[f']? = some fn ∧ fn.body.isSome = true ∧ (fn.name == "runtime.NumGoroutine") = false := by
  dsimp only [chkOp] at h
  split at h <;> first | (simp at h; done) | skip
  all_goals first | contradiction | skip
  simp only [Bool.and_eq_true, beq_iff_eq] at h
  obtain ⟨⟨rfl, h2⟩, h3⟩ := h
  split at h3
  · rename_i fn hfn
    simp only [Bool.and_eq_true] at h3
    exact ⟨_, _, fn, rfl, h2, hfn, h3.1, by simpa using h3.2⟩
  · cases h3
theorem inv_winB {t sz n : Nat} {lo' hi' : Option RV} (h : chkOp P op (.winB t sz n lo' hi') = true) : ∃ ty x lo hi, op = .slice ty x lo hi none ∧ arrIs P ty n sz = true ∧ n ≤ 1000000 ∧ chkV x (.t t) = true ∧ chkO lo lo' = true ∧ chkO hi hi' = true := by
  dsimp only [chkOp] at h
  split at h <;> simp_all
  exact ⟨_, _, _, _, ⟨rfl, rfl, rfl, rfl⟩, h.1.1.1.1, h.1.1.2, h.1.2, h.2⟩
theorem inv_winX {x' b sz : Nat} {lo' hi' : Option RV} (h : chkOp P op (.winX x' b sz lo' hi') = true) : ∃ ty x lo hi, op = .slice ty x lo hi none ∧ slIs P ty sz = true ∧ chkV x (.t x') = true ∧ chkO lo lo' = true ∧ chkO hi hi' = true := by
  dsimp only [chkOp] at h
  split at h <;> simp_all
  exact ⟨_, _, _, _, ⟨rfl, rfl, rfl, rfl⟩, h.1.1.1, h.1.1.2, h.1.2, h.2⟩
theorem inv_cpy {x' b sz : Nat} {y' : RV} (h : chkOp P op (.cpy x' b sz y') = true) : ∃ x y t u, op = .call { callee := .builtin .copy, args := #[x, y], argTypes := #[t, u] } ∧ slIs P t sz = true ∧ chkV x (.t x') = true ∧ chkV y y' = true := by
  dsimp only [chkOp] at h
  split at h <;> simp_all
  exact ⟨_, _, _, ⟨⟨rfl, rfl⟩, rfl⟩, h.1.1, h.1.2, h.2⟩
theorem inv_cpyV {x' b sz y' b2 : Nat} (h : chkOp P op (.cpyV x' b sz y' b2) = true) : ∃ x y t u, op = .call { callee := .builtin .copy, args := #[x, y], argTypes := #[t, u] } ∧ slIs P t sz = true ∧ chkV x (.t x') = true ∧ chkV y (.t y') = true := by
  dsimp only [chkOp] at h
  split at h <;> simp_all
  exact ⟨_, _, _, ⟨⟨rfl, rfl⟩, rfl⟩, h.1.1, h.1.2, h.2⟩
theorem inv_nilM {sz : Nat} (h : chkOp P op (.nilM sz) = true) : ∃ x, (op = .move x ∨ op = .assign x) ∧ chkV x (.c (.row sz [] 0)) = true := by
  cases op <;> simp [chkOp] at h <;> exact ⟨_, by simp, h⟩
end
end Go.Proofs.Ytbikpgaiocjnoaa.Pad
